import PyProof.Rows.All
import Wide.All
import OpenK.AllK
import Wide.FinOn
import Open.SpecLaws
import KE.OsGo
import HandS.ForSpec
import KE.GoesEnum
import KE.DatumOrd
import HandS.Comp
import HandS.Dict
import HandS.Iter
import HandS.Conv
import HandS.Wide
import HandS.Zip
import HandS.TupLen
import PySem.Challenge.RW_cornerbounds_s01_answers
set_option Elab.async false
set_option linter.all false
set_option maxRecDepth 100000
set_option maxHeartbeats 4000000
set_option exponentiation.threshold 100000
/- CbFrac -/
/-! Fractions of the specification are the rational numbers. -/
namespace CB
open Lrx1 (Fraction)

/-- a rational number as the specification writes it -/
def fr (q : Rat) : Fraction := ⟨q.num, q.den⟩

theorem fr_inj {a b : Rat} (h : fr a = fr b) : a = b := by
  have h1 : a.num = b.num := congrArg Fraction.num h
  have h2 : a.den = b.den := congrArg Fraction.den h
  exact Rat.ext h1 h2

theorem fr_inj_iff {a b : Rat} : fr a = fr b ↔ a = b := ⟨fr_inj, fun h => h ▸ rfl⟩

theorem reduce_fr (n : Int) (d : Nat) : Lrx1.reduce n d = fr ((n : Rat) / ((d : Nat) : Rat)) := by
  have e : (n : Rat) / ((d : Nat) : Rat) = mkRat n d := by
    rw [Rat.mkRat_eq_div]
  rw [e]
  unfold Lrx1.reduce fr
  by_cases h : d = 0
  · subst h
    simp
  · rw [if_neg h, Rat.num_mkRat, Rat.den_mkRat, if_neg h, if_neg h, Nat.gcd_comm]

theorem whole_fr (n : Int) : Lrx1.whole n = fr (n : Rat) := rfl
theorem zero_fr : Lrx1.zero = fr 0 := rfl
theorem one_fr : Lrx1.one = fr 1 := rfl

theorem rat_eq (q : Rat) : q = (q.num : Rat) / ((q.den : Nat) : Rat) := by
  rw [← Rat.mkRat_eq_div, Rat.mkRat_self]

theorem add_fr (a b : Rat) : Lrx1.add (fr a) (fr b) = fr (a + b) := by
  unfold Lrx1.add
  rw [reduce_fr, Rat.add_def' a b, Rat.mkRat_eq_div]
  rfl
theorem sub_fr (a b : Rat) : Lrx1.sub (fr a) (fr b) = fr (a - b) := by
  unfold Lrx1.sub
  rw [reduce_fr, Rat.sub_def' a b, Rat.mkRat_eq_div]
  rfl
theorem mul_fr (a b : Rat) : Lrx1.mul (fr a) (fr b) = fr (a * b) := by
  unfold Lrx1.mul
  rw [reduce_fr, Rat.mul_def' a b, Rat.mkRat_eq_div]
  rfl
theorem divide_fr (a b : Rat) : Lrx1.divide (fr a) (fr b) = fr (a / b) := by
  unfold Lrx1.divide
  rw [reduce_fr]
  congr 1
  have hb := rat_eq b
  have ha := rat_eq a
  have hbd : ((b.den : Nat) : Rat) ≠ 0 := by
    have := b.den_nz
    exact_mod_cast this
  have had : ((a.den : Nat) : Rat) ≠ 0 := by
    have := a.den_nz
    exact_mod_cast this
  show ((if b.num < 0 then -(a.num * (b.den : Int)) else a.num * (b.den : Int) : Int) : Rat) / ((a.den * b.num.natAbs : Nat) : Rat) = a / b
  by_cases h0 : b = 0
  · subst h0
    simp
    grind
  · have hn : (b.num : Rat) ≠ 0 := by
      have : b.num ≠ 0 := fun h => h0 (Rat.num_eq_zero.mp h)
      exact_mod_cast this
    by_cases h : b.num < 0
    · rw [if_pos h]
      have e : ((b.num.natAbs : Nat) : Rat) = -(b.num : Rat) := by
        have : ((b.num.natAbs : Nat) : Int) = - b.num := by omega
        rw [← Rat.intCast_natCast, this]
        rfl
      rw [Rat.natCast_mul, e, Rat.intCast_neg, Rat.intCast_mul]
      rw [Rat.intCast_natCast]
      grind
    · rw [if_neg h]
      have e : ((b.num.natAbs : Nat) : Rat) = (b.num : Rat) := by
        have : ((b.num.natAbs : Nat) : Int) = b.num := by omega
        rw [← Rat.intCast_natCast, this]
      rw [Rat.natCast_mul, e, Rat.intCast_mul]
      rw [Rat.intCast_natCast]
      grind
theorem le_fr (a b : Rat) : Lrx1.le (fr a) (fr b) = decide (a ≤ b) := by
  unfold Lrx1.le fr
  exact decide_eq_decide.mpr (Rat.le_iff a b).symm
theorem lt_fr (a b : Rat) : Lrx1.lt (fr a) (fr b) = decide (a < b) := by
  unfold Lrx1.lt fr
  exact decide_eq_decide.mpr (Rat.lt_iff a b).symm
theorem beq_fr (a b : Rat) : (fr a == fr b) = decide (a = b) := by
  show decide (fr a = fr b) = _
  exact decide_eq_decide.mpr fr_inj_iff
theorem isZero_fr (a : Rat) : Lrx1.isZero (fr a) = decide (a = 0) := by
  unfold Lrx1.isZero fr
  show decide (a.num = 0) = _
  exact decide_eq_decide.mpr Rat.num_eq_zero

theorem foldl_add_fr : ∀ (l : List Rat) (a : Rat), (l.map fr).foldl Lrx1.add (fr a) = fr (l.foldl (· + ·) a)
  | [], _ => rfl
  | x :: l, a => by
    show (l.map fr).foldl Lrx1.add (Lrx1.add (fr a) (fr x)) = _
    rw [add_fr, foldl_add_fr l]
    rfl

theorem foldl_add_sum : ∀ (l : List Rat) (a : Rat), l.foldl (· + ·) a = a + l.sum
  | [], a => by simp [Rat.add_zero]
  | x :: l, a => by
    show l.foldl (· + ·) (a + x) = _
    rw [foldl_add_sum l, List.sum_cons]
    grind

theorem sum_fr (l : List Rat) : Lrx1.sum (l.map fr) = fr l.sum := by
  unfold Lrx1.sum
  rw [zero_fr, foldl_add_fr, foldl_add_sum]
  congr 1
  grind

theorem entry_fr (l : List Rat) (j : Nat) : Lrx1.entry (l.map fr) j = fr (l.getD j 0) := by
  unfold Lrx1.entry
  rw [zero_fr]
  rw [List.getD_eq_getElem?_getD, List.getD_eq_getElem?_getD, List.getElem?_map]
  cases l[j]? <;> rfl

/-- coefficients times numbers, summed up -/
def vd (a : List Int) (x : List Rat) : Rat := (List.zipWith (fun (c : Int) (q : Rat) => (c : Rat) * q) a x).sum

@[simp] theorem vd_nil (x : List Rat) : vd [] x = 0 := by simp [vd]
@[simp] theorem vd_nil' (a : List Int) : vd a [] = 0 := by cases a <;> simp [vd]
@[simp] theorem vd_cons (c : Int) (a : List Int) (q : Rat) (x : List Rat) : vd (c :: a) (q :: x) = (c : Rat) * q + vd a x := by
  simp [vd]

theorem sum_range_vd : ∀ (x : List Rat) (a : List Int),
    ((List.range x.length).map fun j => ((a.getD j 0 : Int) : Rat) * x.getD j 0).sum = vd a x
  | [], a => by simp
  | q :: x, a => by
    rw [List.length_cons, List.range_succ_eq_map, List.map_cons, List.sum_cons, List.map_map]
    cases a with
    | nil =>
      have := sum_range_vd x []
      simp only [vd_nil] at this ⊢
      have e : ((fun j => (((([] : List Int).getD j 0 : Int)) : Rat) * (q :: x).getD j 0) ∘ Nat.succ) = fun j => (((([] : List Int).getD j 0 : Int)) : Rat) * x.getD j 0 := by
        funext j
        simp
      rw [e, this]
      simp [Rat.add_zero]
    | cons c a =>
      have := sum_range_vd x a
      have e : ((fun j => ((((c :: a).getD j 0 : Int)) : Rat) * (q :: x).getD j 0) ∘ Nat.succ) = fun j => (((a.getD j 0 : Int)) : Rat) * x.getD j 0 := by
        funext j
        simp
      rw [e, this, vd_cons]
      simp

theorem dot_fr (a : List Int) (x : List Rat) : Lrx6.dot a (x.map fr) = fr (vd a x) := by
  unfold Lrx6.dot
  rw [List.length_map]
  have e : ((List.range x.length).map fun j => Lrx1.mul (Lrx1.whole (a.getD j 0)) (Lrx1.entry (x.map fr) j)) = ((List.range x.length).map fun j => ((a.getD j 0 : Int) : Rat) * x.getD j 0).map fr := by
    rw [List.map_map]
    apply List.map_congr_left
    intro j _
    rw [entry_fr, whole_fr, mul_fr]
    rfl
  rw [e, sum_fr, sum_range_vd]

end CB

/- CbSolve -/
/-! The specification's elimination, over the rational numbers. -/
namespace CB
open Lrx1 (Fraction)

/-! sums -/
def sm : Nat → (Nat → Rat) → Rat
  | 0, _ => 0
  | n + 1, f => sm n f + f n
theorem sm_congr : ∀ {n : Nat} {f g : Nat → Rat}, (∀ j, j < n → f j = g j) → sm n f = sm n g
  | 0, _, _, _ => rfl
  | n + 1, f, g, h => by
    show sm n f + f n = sm n g + g n
    rw [sm_congr fun j hj => h j (by omega), h n (by omega)]
theorem sm_zero : ∀ {n : Nat} {f : Nat → Rat}, (∀ j, j < n → f j = 0) → sm n f = 0
  | 0, _, _ => rfl
  | n + 1, f, h => by
    show sm n f + f n = 0
    rw [sm_zero fun j hj => h j (by omega), h n (by omega), Rat.add_zero]
theorem sm_add : ∀ (n : Nat) (f g : Nat → Rat), sm n (fun j => f j + g j) = sm n f + sm n g
  | 0, _, _ => (Rat.add_zero 0).symm
  | n + 1, f, g => by
    show sm n (fun j => f j + g j) + (f n + g n) = (sm n f + f n) + (sm n g + g n)
    rw [sm_add]
    grind
theorem sm_mul : ∀ (n : Nat) (k : Rat) (f : Nat → Rat), sm n (fun j => k * f j) = k * sm n f
  | 0, _, _ => by simp [sm]
  | n + 1, k, f => by
    show sm n (fun j => k * f j) + k * f n = k * (sm n f + f n)
    rw [sm_mul]
    grind
theorem sm_single : ∀ {n : Nat} {i : Nat} {f : Nat → Rat}, i < n → (∀ j, j < n → j ≠ i → f j = 0) → sm n f = f i
  | 0, _, _, h, _ => absurd h (by omega)
  | n + 1, i, f, h, k => by
    show sm n f + f n = f i
    by_cases e : i = n
    · subst e
      rw [sm_zero fun j hj => k j (by omega) (by omega)]
      grind
    · rw [sm_single (i := i) (by omega) fun j hj hn => k j (by omega) hn, k n (by omega) (fun q => e q.symm)]
      grind
theorem sm_range (n : Nat) (f : Nat → Rat) : ((List.range n).map f).sum = sm n f := by
  induction n with
  | zero => rfl
  | succ n ih =>
    rw [List.range_succ, List.map_append, List.sum_append, ih]
    show sm n f + (f n + 0) = sm n f + f n
    rw [Rat.add_zero]

/-- a row times a vector, over the first n places -/
def ev (n : Nat) (row : List Rat) (z : Nat → Rat) : Rat := sm n fun j => row.getD j 0 * z j

/-! the steps -/
def subQ (k : Rat) (other row : List Rat) : List Rat := (List.range row.length).map fun j => row.getD j 0 - k * other.getD j 0
def swapQ (rows : List (List Rat)) (c r : Nat) : List (List Rat) := (rows.set r (rows.getD c [])).set c (rows.getD r [])
def pivQ (rows : List (List Rat)) (c : Nat) : List Rat := (rows.getD c []).map fun q => (1 / (rows.getD c []).getD c 0) * q
def clearQ (rows : List (List Rat)) (c : Nat) : List (List Rat) :=
  (List.range rows.length).map fun i => if i = c then pivQ rows c else subQ ((rows.getD i []).getD c 0) (pivQ rows c) (rows.getD i [])
def findQ (rows : List (List Rat)) (c : Nat) : Option Nat :=
  (List.range rows.length).find? fun r => decide (c ≤ r) && !decide ((rows.getD r []).getD c 0 = 0)
def stepQ (rows : List (List Rat)) (c : Nat) : Option (List (List Rat)) := (findQ rows c).map fun r => clearQ (swapQ rows c r) c
def stepsQ (rows : List (List Rat)) : Nat → Option (List (List Rat))
  | 0 => some rows
  | c + 1 => (stepsQ rows c).bind fun r => stepQ r c
def solveQ (rows : List (List Rat)) : Option (List Rat) :=
  (stepsQ rows rows.length).map fun r => r.map fun row => row.getD r.length 0

abbrev mf (rows : List (List Rat)) : List (List Fraction) := rows.map fun r => r.map fr
theorem mf_getD (rows : List (List Rat)) (i : Nat) : (mf rows).getD i [] = (rows.getD i []).map fr := by
  rw [List.getD_eq_getElem?_getD, List.getD_eq_getElem?_getD, List.getElem?_map]
  cases rows[i]? <;> rfl
theorem getD_fr (l : List Rat) (j : Nat) : (l.map fr).getD j Lrx1.zero = fr (l.getD j 0) := entry_fr l j

theorem subtract_fr (k : Rat) (other row : List Rat) : Lrx1.subtractRow (fr k) (other.map fr) (row.map fr) = (subQ k other row).map fr := by
  unfold Lrx1.subtractRow subQ
  rw [List.length_map, List.map_map]
  apply List.map_congr_left
  intro j _
  rw [entry_fr, entry_fr, mul_fr, sub_fr]
  rfl
theorem scale_fr (k : Rat) (row : List Rat) : Lrx1.scaleRow (fr k) (row.map fr) = (row.map fun q => k * q).map fr := by
  unfold Lrx1.scaleRow
  rw [List.map_map, List.map_map]
  apply List.map_congr_left
  intro j _
  exact mul_fr k j
theorem swap_fr (rows : List (List Rat)) (c r : Nat) :
    ((mf rows).set r ((mf rows).getD c [])).set c ((mf rows).getD r []) = mf (swapQ rows c r) := by
  rw [mf_getD, mf_getD]
  unfold swapQ mf
  rw [List.map_set, List.map_set]
theorem pivotStep_fr (rows : List (List Rat)) (c : Nat) : Lrx1.pivotStep (mf rows) c = (stepQ rows c).map mf := by
  unfold Lrx1.pivotStep stepQ
  have e : (List.range (mf rows).length).find? (fun r => decide (c ≤ r) && !Lrx1.isZero (Lrx1.entry ((mf rows).getD r []) c)) = findQ rows c := by
    unfold findQ
    rw [List.length_map]
    congr 1
    funext r
    rw [mf_getD, entry_fr, isZero_fr]
  rw [e]
  cases findQ rows c with
  | none => rfl
  | some r =>
    show some _ = some _
    congr 1
    rw [swap_fr (rows := rows) (c := c) (r := r)]
    show _ = mf (clearQ (swapQ rows c r) c)
    generalize swapQ rows c r = S
    rw [mf_getD S c, entry_fr, one_fr, divide_fr, scale_fr]
    show List.map _ (List.range (mf S).length) = _
    have el : (mf S).length = S.length := List.length_map _
    rw [el]
    show _ = List.map (fun r => List.map fr r) (List.map _ _)
    rw [List.map_map (f := fun i => if i = c then pivQ S c else subQ ((S.getD i []).getD c 0) (pivQ S c) (S.getD i []))]
    apply List.map_congr_left
    intro i _
    show (if i = c then _ else _) = List.map fr (if i = c then _ else _)
    by_cases h : i = c
    · rw [if_pos h, if_pos h]
      rfl
    · rw [if_neg h, if_neg h]
      rw [mf_getD S i, entry_fr, subtract_fr]
      rfl
theorem steps_fr (rows : List (List Rat)) : ∀ k : Nat,
    (List.range k).foldl (fun (state : Option (List (List Fraction))) (c : Nat) => state.bind fun rows => Lrx1.pivotStep rows c) (some (mf rows)) = (stepsQ rows k).map mf
  | 0 => rfl
  | k + 1 => by
    rw [List.range_succ, List.foldl_append, steps_fr rows k]
    show (Option.map mf (stepsQ rows k)).bind (fun rows => Lrx1.pivotStep rows k) = ((stepsQ rows k).bind fun r => stepQ r k).map mf
    cases stepsQ rows k with
    | none => rfl
    | some r => exact pivotStep_fr r k
theorem solve_fr (rows : List (List Rat)) : Lrx1.solve (mf rows) = (solveQ rows).map fun x => x.map fr := by
  unfold Lrx1.solve solveQ
  have h := steps_fr rows (mf rows).length
  have e : (mf rows).length = rows.length := List.length_map _
  rw [show ((List.range (mf rows).length).foldl (fun (state : Option (List Lrx1.Row)) (c : Nat) =>
    state.bind fun rows => Lrx1.pivotStep rows c) (some (mf rows))) = _ from h, e]
  cases stepsQ rows rows.length with
  | none => rfl
  | some r =>
    show some _ = some _
    congr 1
    show ((mf r).map (fun row => Lrx1.entry row (mf r).length)) = List.map fr (r.map fun row => row.getD r.length 0)
    unfold mf
    rw [List.map_map, List.map_map]
    apply List.map_congr_left
    intro row _
    show Lrx1.entry (row.map fr) (List.map (fun r => List.map fr r) r).length = _
    rw [entry_fr, List.length_map]
    rfl

end CB

/- CbLin -/
/-! What the elimination finds: the one solution, or a direction that all rows let be. -/
namespace CB

/-- rows of so many places, so many of them -/
def Shape (n m : Nat) (rows : List (List Rat)) : Prop := rows.length = n ∧ ∀ i, i < n → (rows.getD i []).length = m
/-- all rows give 0 -/
def Ker (n m : Nat) (rows : List (List Rat)) (z : Nat → Rat) : Prop := ∀ i, i < n → ev m (rows.getD i []) z = 0
/-- the first c columns are those of the unit matrix -/
def Unit (n c : Nat) (rows : List (List Rat)) : Prop := ∀ i, i < n → ∀ j, j < c → (rows.getD i []).getD j 0 = if i = j then 1 else 0

theorem getD_range_map {α : Type} (n : Nat) (f : Nat → α) (d : α) (i : Nat) (h : i < n) : ((List.range n).map f).getD i d = f i := by
  rw [List.getD_eq_getElem?_getD, List.getElem?_map, List.getElem?_range h]
  rfl
theorem getD_map_ {α β : Type} (l : List α) (f : α → β) (d : α) (e : β) (i : Nat) (h : i < l.length) : (l.map f).getD i e = f (l.getD i d) := by
  rw [List.getD_eq_getElem?_getD, List.getElem?_map, List.getD_eq_getElem?_getD, List.getElem?_eq_getElem h]
  rfl

theorem swap_getD {rows : List (List Rat)} {n c r i : Nat} (hl : rows.length = n) (hc : c < n) (hr : r < n) (hi : i < n) :
    (swapQ rows c r).getD i [] = if i = c then rows.getD r [] else if i = r then rows.getD c [] else rows.getD i [] := by
  unfold swapQ
  simp only [List.getD_eq_getElem?_getD, List.getElem?_set, List.length_set, hl]
  by_cases h1 : i = c
  · subst h1
    simp [hc]
  · rw [if_neg h1, if_neg (fun h => h1 h.symm)]
    by_cases h2 : i = r
    · subst h2
      simp [hi]
    · rw [if_neg h2, if_neg (fun h => h2 h.symm)]
theorem swap_length (rows : List (List Rat)) (c r : Nat) : (swapQ rows c r).length = rows.length := by
  simp [swapQ]
theorem swap_shape {rows : List (List Rat)} {n m c r : Nat} (h : Shape n m rows) (hc : c < n) (hr : r < n) : Shape n m (swapQ rows c r) := by
  refine ⟨(swap_length _ _ _).trans h.1, fun i hi => ?_⟩
  rw [swap_getD h.1 hc hr hi]
  split
  · exact h.2 r hr
  · split
    · exact h.2 c hc
    · exact h.2 i hi
theorem swap_ker {rows : List (List Rat)} {n m c r : Nat} (h : Shape n m rows) (hc : c < n) (hr : r < n) (z : Nat → Rat) :
    Ker n m (swapQ rows c r) z ↔ Ker n m rows z := by
  constructor
  · intro k i hi
    have kc := k c hc
    have kr := k r hr
    have ki := k i hi
    rw [swap_getD h.1 hc hr hc, if_pos rfl] at kc
    rw [swap_getD h.1 hc hr hr] at kr
    rw [swap_getD h.1 hc hr hi] at ki
    by_cases e1 : i = c
    · subst e1
      by_cases e2 : r = i
      · subst e2
        exact kc
      · rw [if_neg e2, if_pos rfl] at kr
        exact kr
    · by_cases e2 : i = r
      · subst e2
        exact kc
      · rw [if_neg e1, if_neg e2] at ki
        exact ki
  · intro k i hi
    rw [swap_getD h.1 hc hr hi]
    split
    · exact k r hr
    · split
      · exact k c hc
      · exact k i hi

theorem ev_sub {m : Nat} {k : Rat} {other row : List Rat} (h : row.length = m) (z : Nat → Rat) : ev m (subQ k other row) z = ev m row z - k * ev m other z := by
  unfold ev subQ
  rw [show sm m (fun j => ((List.range row.length).map fun j => row.getD j 0 - k * other.getD j 0).getD j 0 * z j)
      = sm m (fun j => row.getD j 0 * z j + (-k) * (other.getD j 0 * z j)) from sm_congr fun j hj => by
        rw [getD_range_map _ _ _ _ (by omega)]
        grind]
  rw [sm_add, sm_mul]
  grind
theorem ev_scale {m : Nat} {k : Rat} {row : List Rat} (h : row.length = m) (z : Nat → Rat) : ev m (row.map fun q => k * q) z = k * ev m row z := by
  unfold ev
  rw [← sm_mul]
  exact sm_congr fun j hj => by
    rw [getD_map_ row _ 0 0 j (by omega)]
    grind

theorem clear_length (rows : List (List Rat)) (c : Nat) : (clearQ rows c).length = rows.length := by simp [clearQ]
theorem clear_getD {rows : List (List Rat)} {n c i : Nat} (hl : rows.length = n) (hi : i < n) :
    (clearQ rows c).getD i [] = if i = c then pivQ rows c else subQ ((rows.getD i []).getD c 0) (pivQ rows c) (rows.getD i []) := by
  unfold clearQ
  rw [getD_range_map _ _ _ _ (by omega)]
theorem clear_shape {rows : List (List Rat)} {n m c : Nat} (h : Shape n m rows) (hc : c < n) : Shape n m (clearQ rows c) := by
  refine ⟨(clear_length _ _).trans h.1, fun i hi => ?_⟩
  rw [clear_getD h.1 hi]
  split
  · unfold pivQ
    rw [List.length_map]
    exact h.2 c hc
  · unfold subQ
    rw [List.length_map, List.length_range]
    exact h.2 i hi
theorem clear_ker {rows : List (List Rat)} {n m c : Nat} (h : Shape n m rows) (hc : c < n) (hp : (rows.getD c []).getD c 0 ≠ 0) (z : Nat → Rat) :
    Ker n m (clearQ rows c) z ↔ Ker n m rows z := by
  have hk : 1 / (rows.getD c []).getD c 0 ≠ 0 := by grind
  have ep : ev m (pivQ rows c) z = 1 / (rows.getD c []).getD c 0 * ev m (rows.getD c []) z := ev_scale (h.2 c hc) z
  have es : ∀ i, i < n → ev m (subQ ((rows.getD i []).getD c 0) (pivQ rows c) (rows.getD i [])) z = ev m (rows.getD i []) z - (rows.getD i []).getD c 0 * ev m (pivQ rows c) z := fun i hi => ev_sub (h.2 i hi) z
  constructor
  · intro k i hi
    have kc := k c hc
    rw [clear_getD h.1 hc, if_pos rfl] at kc
    by_cases e : i = c
    · subst e
      rw [ep] at kc
      rcases Rat.mul_eq_zero.mp kc with q | q
      · exact absurd q hk
      · exact q
    · have ki := k i hi
      rw [clear_getD h.1 hi, if_neg e, es i hi, kc] at ki
      grind
  · intro k i hi
    have kp : ev m (pivQ rows c) z = 0 := by
      rw [ep, k c hc]
      grind
    rw [clear_getD h.1 hi]
    split
    · exact kp
    · rw [es i hi, k i hi, kp]
      grind

theorem find_some {rows : List (List Rat)} {n c r : Nat} (hl : rows.length = n) (h : findQ rows c = some r) : r < n ∧ c ≤ r ∧ (rows.getD r []).getD c 0 ≠ 0 := by
  have a := List.mem_of_find?_eq_some h
  have b := List.find?_some h
  rw [List.mem_range] at a
  simp only [Bool.and_eq_true, decide_eq_true_eq, Bool.not_eq_true', decide_eq_false_iff_not] at b
  exact ⟨by omega, b.1, b.2⟩
theorem find_none {rows : List (List Rat)} {n c : Nat} (hl : rows.length = n) (h : findQ rows c = none) : ∀ r, r < n → c ≤ r → (rows.getD r []).getD c 0 = 0 := by
  intro r hr hc
  have := List.find?_eq_none.mp h r (by rw [List.mem_range]; omega)
  simp only [Bool.and_eq_true, decide_eq_true_eq, Bool.not_eq_true', decide_eq_false_iff_not] at this
  rcases Decidable.em ((rows.getD r []).getD c 0 = 0) with e | e
  · exact e
  · exact absurd ⟨hc, e⟩ this

theorem step_some {rows rows' : List (List Rat)} {n m c : Nat} (h : Shape n m rows) (hc : c < n) (hm : n ≤ m) (hu : Unit n c rows) (e : stepQ rows c = some rows') :
    Shape n m rows' ∧ Unit n (c + 1) rows' ∧ ∀ z, Ker n m rows' z ↔ Ker n m rows z := by
  unfold stepQ at e
  obtain ⟨r, e1, e2⟩ := Option.map_eq_some_iff.mp e
  obtain ⟨hr, hcr, hp⟩ := find_some h.1 e1
  have S := swap_shape h hc hr
  have hpc : ((swapQ rows c r).getD c []).getD c 0 ≠ 0 := by
    rw [swap_getD h.1 hc hr hc, if_pos rfl]
    exact hp
  subst e2
  refine ⟨clear_shape S hc, ?_, fun z => (clear_ker S hc hpc z).trans (swap_ker h hc hr z)⟩
  have hsu : ∀ i, i < n → ∀ j, j < c → ((swapQ rows c r).getD i []).getD j 0 = if i = j then 1 else 0 := by
    intro i hi j hj
    rw [swap_getD h.1 hc hr hi]
    by_cases a : i = c
    · rw [if_pos a, hu r hr j hj, if_neg (by omega), if_neg (by omega)]
    · rw [if_neg a]
      by_cases b : i = r
      · rw [if_pos b, hu c hc j hj, if_neg (by omega), if_neg (by omega)]
      · rw [if_neg b, hu i hi j hj]
  generalize swapQ rows c r = T at S hpc hsu
  have hpiv : ∀ j, j < m → (pivQ T c).getD j 0 = 1 / (T.getD c []).getD c 0 * (T.getD c []).getD j 0 := by
    intro j hj
    exact getD_map_ _ _ 0 0 j (by rw [S.2 c hc]; exact hj)
  have hsub : ∀ i, i < n → ∀ j, j < m → (subQ ((T.getD i []).getD c 0) (pivQ T c) (T.getD i [])).getD j 0 = (T.getD i []).getD j 0 - (T.getD i []).getD c 0 * (pivQ T c).getD j 0 := by
    intro i hi j hj
    exact getD_range_map _ _ 0 j (by rw [S.2 i hi]; exact hj)
  intro i hi j hj
  rw [clear_getD S.1 hi]
  by_cases a : i = c
  · rw [if_pos a, hpiv j (by omega)]
    by_cases b : j = c
    · subst b
      subst a
      rw [if_pos rfl]
      grind
    · rw [hsu c hc j (by omega), if_neg (by omega), if_neg (by omega)]
      grind
  · rw [if_neg a, hsub i hi j (by omega), hpiv j (by omega)]
    by_cases b : j = c
    · subst b
      rw [if_neg a]
      grind
    · rw [hsu c hc j (by omega), if_neg (show ¬ c = j by omega), hsu i hi j (by omega)]
      grind

theorem steps_some {rows : List (List Rat)} {n m : Nat} (h : Shape n m rows) (hm : n ≤ m) : ∀ (c : Nat) (rows' : List (List Rat)), c ≤ n → stepsQ rows c = some rows' →
    Shape n m rows' ∧ Unit n c rows' ∧ ∀ z, Ker n m rows' z ↔ Ker n m rows z
  | 0, rows', _, e => by
    cases Option.some.inj e
    exact ⟨h, fun i _ j hj => absurd hj (by omega), fun z => Iff.rfl⟩
  | c + 1, rows', hc, e => by
    obtain ⟨r1, e1, e2⟩ := Option.bind_eq_some_iff.mp e
    obtain ⟨a, b, k⟩ := steps_some h hm c r1 (by omega) e1
    obtain ⟨a2, b2, k2⟩ := step_some a (by omega) hm b e2
    exact ⟨a2, b2, fun z => (k2 z).trans (k z)⟩

theorem ev_unit {n m c i : Nat} {row : List Rat} {z : Nat → Rat} (hc : c + 1 = m) (hi : i < c) (hu : ∀ j, j < c → row.getD j 0 = if i = j then 1 else 0) :
    ev m row z = z i + row.getD c 0 * z c := by
  subst hc
  show sm c (fun j => row.getD j 0 * z j) + row.getD c 0 * z c = _
  rw [sm_single (i := i) hi fun j hj hn => by rw [hu j hj, if_neg (fun e => hn e.symm)]; grind]
  rw [hu i hi, if_pos rfl]
  grind

/-- one solution: just the multiples of it let all rows be -/
theorem solve_some {rows : List (List Rat)} {n : Nat} (h : Shape n (n + 1) rows) {x : List Rat} (e : solveQ rows = some x) :
    x.length = n ∧ ∀ z, Ker n (n + 1) rows z ↔ ∀ i, i < n → z i = - (x.getD i 0 * z n) := by
  unfold solveQ at e
  obtain ⟨r, e1, e2⟩ := Option.map_eq_some_iff.mp e
  rw [h.1] at e1
  obtain ⟨S, U, K⟩ := steps_some h (by omega) n r (Nat.le_refl _) e1
  subst e2
  refine ⟨(List.length_map _).trans S.1, fun z => ?_⟩
  have hx : ∀ i, i < n → (r.map fun row => row.getD r.length 0).getD i 0 = (r.getD i []).getD n 0 := by
    intro i hi
    rw [getD_map_ r _ [] 0 i (by rw [S.1]; exact hi), S.1]
  rw [← K z]
  constructor
  · intro k i hi
    have := k i hi
    rw [ev_unit (n := n) rfl hi (U i hi)] at this
    rw [hx i hi]
    grind
  · intro k i hi
    rw [ev_unit (n := n) rfl hi (U i hi), k i hi, hx i hi]
    grind

/-- no one solution: a direction is let be by all rows -/
theorem steps_none {rows : List (List Rat)} {n : Nat} (h : Shape n (n + 1) rows) : ∀ (c : Nat), c ≤ n → stepsQ rows c = none →
    ∃ z : Nat → Rat, z n = 0 ∧ (∃ i, i < n ∧ z i ≠ 0) ∧ Ker n (n + 1) rows z
  | 0, _, e => by cases e
  | c + 1, hc, e => by
    cases e1 : stepsQ rows c with
    | none => exact steps_none h c (by omega) e1
    | some r =>
      obtain ⟨S, U, K⟩ := steps_some h (by omega) c r (by omega) e1
      have e2 : stepQ r c = none := by
        have : (stepsQ rows c).bind (fun r => stepQ r c) = none := e
        rw [e1] at this
        exact this
      have e3 : findQ r c = none := Option.map_eq_none_iff.mp e2
      have f := find_none S.1 e3
      -- the direction: 1 at c, and what undoes it at the columns ahead
      let z : Nat → Rat := fun j => if j = c then 1 else if j < c then - (r.getD j []).getD c 0 else 0
      have zc : z c = 1 := if_pos rfl
      have zl : ∀ j, j < c → z j = - (r.getD j []).getD c 0 := fun j hj => by
        show (if j = c then 1 else if j < c then - (r.getD j []).getD c 0 else 0) = _
        rw [if_neg (by omega), if_pos hj]
      have zg : ∀ j, c < j → z j = 0 := fun j hj => by
        show (if j = c then 1 else if j < c then - (r.getD j []).getD c 0 else 0) = _
        rw [if_neg (by omega), if_neg (by omega)]
      refine ⟨z, zg n (by omega), ⟨c, by omega, by rw [zc]; decide⟩, (K z).mp fun i hi => ?_⟩
      have cut : ∀ (d : Nat), c < d → d ≤ n + 1 → sm d (fun j => (r.getD i []).getD j 0 * z j) = sm (c + 1) (fun j => (r.getD i []).getD j 0 * z j) := by
        intro d
        induction d with
        | zero => intro a _; omega
        | succ d ih =>
          intro a b
          by_cases q : d = c
          · rw [q]
          · show sm d _ + (r.getD i []).getD d 0 * z d = _
            rw [ih (by omega) (by omega), zg d (by omega)]
            grind
      show sm (n + 1) _ = 0
      rw [cut (n + 1) (by omega) (Nat.le_refl _)]
      show sm c _ + (r.getD i []).getD c 0 * z c = 0
      by_cases q : i < c
      · rw [sm_single (i := i) q fun j hj hn => by rw [U i hi j hj, if_neg (fun e => hn e.symm)]; grind]
        rw [U i hi i q, if_pos rfl, zl i q, zc]
        grind
      · rw [sm_zero fun j hj => by rw [U i hi j hj, if_neg (by omega)]; grind]
        rw [f i hi (by omega)]
        grind
theorem solve_none {rows : List (List Rat)} {n : Nat} (h : Shape n (n + 1) rows) (e : solveQ rows = none) :
    ∃ z : Nat → Rat, z n = 0 ∧ (∃ i, i < n ∧ z i ≠ 0) ∧ Ker n (n + 1) rows z := by
  unfold solveQ at e
  have e1 := Option.map_eq_none_iff.mp e
  rw [h.1] at e1
  exact steps_none h n (Nat.le_refl _) e1

/-! other right sides -/
def Alike (n c : Nat) (a b : List (List Rat)) : Prop := ∀ i, i < n → ∀ j, j < c → (a.getD i []).getD j 0 = (b.getD i []).getD j 0
theorem find_alike {a b : List (List Rat)} {n m c : Nat} (ha : Shape n m a) (hb : Shape n m b) (h : Alike n m a b) (hc : c < m) : findQ a c = findQ b c := by
  unfold findQ
  rw [ha.1, hb.1]
  have key : ∀ l : List Nat, (∀ r ∈ l, r < n) → l.find? (fun r => decide (c ≤ r) && !decide ((a.getD r []).getD c 0 = 0)) = l.find? (fun r => decide (c ≤ r) && !decide ((b.getD r []).getD c 0 = 0)) := by
    intro l
    induction l with
    | nil => intro _; rfl
    | cons r l ih =>
      intro hl
      rw [List.find?_cons, List.find?_cons, h r (hl r (List.mem_cons_self ..)) c hc, ih fun q hq => hl q (List.mem_cons_of_mem _ hq)]
  exact key _ fun r hr => List.mem_range.mp hr
theorem step_alike {a b a' : List (List Rat)} {n c : Nat} (ha : Shape n (n + 1) a) (hb : Shape n (n + 1) b) (h : Alike n n a b) (hc : c < n) (e : stepQ a c = some a') :
    ∃ b', stepQ b c = some b' ∧ Shape n (n + 1) a' ∧ Shape n (n + 1) b' ∧ Alike n n a' b' := by
  unfold stepQ at e
  obtain ⟨r, e1, e2⟩ := Option.map_eq_some_iff.mp e
  have f : findQ b c = some r := by
    rw [← e1]
    unfold findQ
    rw [ha.1, hb.1]
    have key : ∀ l : List Nat, (∀ r ∈ l, r < n) → l.find? (fun r => decide (c ≤ r) && !decide ((b.getD r []).getD c 0 = 0)) = l.find? (fun r => decide (c ≤ r) && !decide ((a.getD r []).getD c 0 = 0)) := by
      intro l
      induction l with
      | nil => intro _; rfl
      | cons r l ih =>
        intro hl
        rw [List.find?_cons, List.find?_cons, h r (hl r (List.mem_cons_self ..)) c hc, ih fun q hq => hl q (List.mem_cons_of_mem _ hq)]
    exact key _ fun r hr => List.mem_range.mp hr
  obtain ⟨hr, hcr, hp⟩ := find_some ha.1 e1
  have A := swap_shape ha hc hr
  have B := swap_shape hb hc hr
  subst e2
  refine ⟨clearQ (swapQ b c r) c, by unfold stepQ; rw [f]; rfl, clear_shape A hc, clear_shape B hc, ?_⟩
  have hs : Alike n n (swapQ a c r) (swapQ b c r) := by
    intro i hi j hj
    rw [swap_getD ha.1 hc hr hi, swap_getD hb.1 hc hr hi]
    split
    · exact h r hr j hj
    · split
      · exact h c hc j hj
      · exact h i hi j hj
  generalize swapQ a c r = S at A hs
  generalize swapQ b c r = T at B hs
  have hpv : ∀ j, j < n → (pivQ S c).getD j 0 = (pivQ T c).getD j 0 := by
    intro j hj
    unfold pivQ
    rw [getD_map_ _ _ 0 0 j (by rw [A.2 c hc]; omega), getD_map_ _ _ 0 0 j (by rw [B.2 c hc]; omega), hs c hc c hc, hs c hc j hj]
  intro i hi j hj
  rw [clear_getD A.1 hi, clear_getD B.1 hi]
  by_cases q : i = c
  · rw [if_pos q, if_pos q, hpv j hj]
  · rw [if_neg q, if_neg q]
    unfold subQ
    rw [getD_range_map _ _ 0 j (by rw [A.2 i hi]; omega), getD_range_map _ _ 0 j (by rw [B.2 i hi]; omega), hs i hi j hj, hs i hi c hc, hpv j hj]
theorem steps_alike {a b : List (List Rat)} {n : Nat} (ha : Shape n (n + 1) a) (hb : Shape n (n + 1) b) (h : Alike n n a b) : ∀ (c : Nat) (a' : List (List Rat)), c ≤ n → stepsQ a c = some a' →
    ∃ b', stepsQ b c = some b' ∧ Shape n (n + 1) a' ∧ Shape n (n + 1) b' ∧ Alike n n a' b'
  | 0, a', _, e => by
    cases Option.some.inj e
    exact ⟨b, rfl, ha, hb, h⟩
  | c + 1, a', hc, e => by
    obtain ⟨a1, e1, e2⟩ := Option.bind_eq_some_iff.mp e
    obtain ⟨b1, f1, A, B, R⟩ := steps_alike ha hb h c a1 (by omega) e1
    obtain ⟨b2, f2, A2, B2, R2⟩ := step_alike A B R (by omega) e2
    exact ⟨b2, by show (stepsQ b c).bind _ = _; rw [f1]; exact f2, A2, B2, R2⟩
theorem solve_alike {a b : List (List Rat)} {n : Nat} (ha : Shape n (n + 1) a) (hb : Shape n (n + 1) b) (h : Alike n n a b) {x : List Rat} (e : solveQ a = some x) : ∃ y, solveQ b = some y := by
  unfold solveQ at e
  obtain ⟨r, e1, _⟩ := Option.map_eq_some_iff.mp e
  rw [ha.1] at e1
  obtain ⟨b', f, _⟩ := steps_alike ha hb h n r (Nat.le_refl _) e1
  exact ⟨_, by unfold solveQ; rw [hb.1, f]; rfl⟩

/-- where there is one solution, each row alone can be given a value -/
theorem solve_any {rows : List (List Rat)} {n : Nat} (h : Shape n (n + 1) rows) {x : List Rat} (e : solveQ rows = some x) (k : Nat) (hk : k < n) :
    ∃ v : Nat → Rat, ∀ i, i < n → sm n (fun j => (rows.getD i []).getD j 0 * v j) = if i = k then 1 else 0 := by
  let b : List (List Rat) := (List.range n).map fun i => (List.range (n + 1)).map fun j => if j = n then (if i = k then 1 else 0) else (rows.getD i []).getD j 0
  have bi : ∀ i, i < n → b.getD i [] = (List.range (n + 1)).map fun j => if j = n then (if i = k then 1 else 0) else (rows.getD i []).getD j 0 := fun i hi => getD_range_map _ _ _ _ hi
  have hb : Shape n (n + 1) b := ⟨by simp [b], fun i hi => by rw [bi i hi]; simp⟩
  have bj : ∀ i, i < n → ∀ j, j < n + 1 → (b.getD i []).getD j 0 = if j = n then (if i = k then 1 else 0) else (rows.getD i []).getD j 0 := fun i hi j hj => by
    rw [bi i hi]
    exact getD_range_map _ _ _ _ hj
  have al : Alike n n rows b := fun i hi j hj => by rw [bj i hi j (by omega), if_neg (by omega)]
  obtain ⟨y, ey⟩ := solve_alike h hb al e
  obtain ⟨ly, ky⟩ := solve_some hb ey
  let z : Nat → Rat := fun j => if j = n then -1 else y.getD j 0
  have zn : z n = -1 := if_pos rfl
  have zj : ∀ j, j < n → z j = y.getD j 0 := fun j hj => if_neg (by omega)
  have kz : Ker n (n + 1) b z := (ky z).mpr fun i hi => by
    rw [zj i hi, zn]
    grind
  refine ⟨fun j => y.getD j 0, fun i hi => ?_⟩
  have := kz i hi
  have this : sm n (fun j => (b.getD i []).getD j 0 * z j) + (b.getD i []).getD n 0 * z n = 0 := this
  rw [sm_congr (g := fun j => (rows.getD i []).getD j 0 * y.getD j 0) fun j hj => by rw [bj i hi j (by omega), if_neg (by omega), zj j hj], bj i hi n (by omega), if_pos rfl, zn] at this
  grind

end CB

/- CbWedge -/
/-! Alternating forms on lists of places: minors without determinants. Plain Lean. -/
namespace CB

def wedge (F : List Nat → Int) (e : Nat → Int) : List Nat → Int
  | [] => 0
  | x :: L => e x * F L - wedge (fun M => F (x :: M)) e L

theorem wedge_lin (a b : Int) : ∀ (L : List Nat) (F G : List Nat → Int) (e : Nat → Int), wedge (fun M => a * F M + b * G M) e L = a * wedge F e L + b * wedge G e L
  | [], _, _, _ => by simp [wedge]
  | x :: L, F, G, e => by
    have := wedge_lin a b L (fun M => F (x :: M)) (fun M => G (x :: M)) e
    simp only [wedge]
    rw [this]
    grind
theorem wedge_lin2 (a b : Int) (e h : Nat → Int) : ∀ (L : List Nat) (F : List Nat → Int), wedge F (fun y => a * e y + b * h y) L = a * wedge F e L + b * wedge F h L
  | [], _ => by simp [wedge]
  | x :: L, F => by
    have := wedge_lin2 a b e h L (fun M => F (x :: M))
    simp only [wedge]
    rw [this]
    grind
theorem wedge_zero (e : Nat → Int) : ∀ (L : List Nat), wedge (fun _ => 0) e L = 0
  | [] => rfl
  | x :: L => by
    have := wedge_zero e L
    simp only [wedge]
    rw [this]
    omega
theorem wedge_zero2 : ∀ (L : List Nat) (F : List Nat → Int), wedge F (fun _ => 0) L = 0
  | [], _ => rfl
  | x :: L, F => by
    have := wedge_zero2 L (fun M => F (x :: M))
    simp only [wedge]
    rw [this]
    omega
theorem wedge_neg (L : List Nat) (F : List Nat → Int) (e : Nat → Int) : wedge (fun M => - F M) e L = - wedge F e L := by
  have := wedge_lin (-1) 0 L F (fun _ => 0) e
  have e1 : (fun M => (-1) * F M + 0 * (fun _ => (0:Int)) M) = fun M => - F M := by
    funext M
    grind
  rw [e1] at this
  rw [this]
  grind
theorem wedge_comm (e h : Nat → Int) : ∀ (L : List Nat) (F : List Nat → Int), wedge (wedge F e) h L = - wedge (wedge F h) e L
  | [], _ => rfl
  | x :: L, F => by
    have key : ∀ (a b : Nat → Int), wedge (wedge F a) b (x :: L) = b x * wedge F a L - a x * wedge F b L + wedge (wedge (fun M => F (x :: M)) a) b L := by
      intro a b
      have e1 : (fun M => wedge F a (x :: M)) = fun M => a x * F M + (-1) * wedge (fun M => F (x :: M)) a M := by
        funext M
        simp only [wedge]
        grind
      show b x * wedge F a L - wedge (fun M => wedge F a (x :: M)) b L = _
      rw [e1, wedge_lin]
      grind
    rw [key e h, key h e, wedge_comm e h L]
    grind
theorem wedge_self (e : Nat → Int) (L : List Nat) (F : List Nat → Int) : wedge (wedge F e) e L = 0 := by
  have := wedge_comm e e L F
  omega

/-- neighbours change places: the sign changes -/
def Alt (F : List Nat → Int) : Prop := ∀ A x y B, F (A ++ x :: y :: B) = - F (A ++ y :: x :: B)
theorem alt_cons {F : List Nat → Int} (h : Alt F) (z : Nat) : Alt fun M => F (z :: M) := fun A x y B => h (z :: A) x y B
theorem alt_wedge : ∀ (A : List Nat) (F : List Nat → Int) (e : Nat → Int), Alt F → ∀ x y B, wedge F e (A ++ x :: y :: B) = - wedge F e (A ++ y :: x :: B)
  | [], F, e, h, x, y, B => by
    show wedge F e (x :: y :: B) = - wedge F e (y :: x :: B)
    simp only [wedge]
    have e1 : (fun M => F (x :: y :: M)) = fun M => - F (y :: x :: M) := by
      funext M
      exact h [] x y M
    rw [e1, wedge_neg]
    omega
  | z :: A, F, e, h, x, y, B => by
    show wedge F e (z :: (A ++ x :: y :: B)) = - wedge F e (z :: (A ++ y :: x :: B))
    simp only [wedge]
    rw [alt_wedge A (fun M => F (z :: M)) e (alt_cons h z) x y B, h A x y B]
    grind
theorem Alt.wedge {F : List Nat → Int} (h : Alt F) (e : Nat → Int) : Alt (CB.wedge F e) := fun A => alt_wedge A F e h

def sg : List Nat → Int
  | [] => 1
  | _ :: A => - sg A
theorem sg_sq : ∀ A, sg A * sg A = 1
  | [] => rfl
  | _ :: A => by
    have := sg_sq A
    simp only [sg]
    grind
theorem sg_snoc : ∀ A c, sg (A ++ [c]) = - sg A
  | [], _ => rfl
  | x :: A, c => by
    show - sg (A ++ [c]) = - - sg A
    rw [sg_snoc A c]
theorem alt_move {F : List Nat → Int} (h : Alt F) (x : Nat) : ∀ (A P B : List Nat), F (P ++ x :: (A ++ B)) = sg A * F (P ++ (A ++ x :: B))
  | [], P, B => by simp [sg]
  | a :: A, P, B => by
    have e := alt_move h x A (P ++ [a]) B
    show F (P ++ x :: a :: (A ++ B)) = - sg A * F (P ++ a :: (A ++ x :: B))
    rw [h P x a]
    simp only [List.append_assoc, List.singleton_append] at e
    rw [e]
    grind
theorem alt_front {F : List Nat → Int} (h : Alt F) (x : Nat) (A B : List Nat) : F (x :: (A ++ B)) = sg A * F (A ++ x :: B) := alt_move h x A [] B
theorem alt_dup {F : List Nat → Int} (h : Alt F) {x : Nat} {N : List Nat} (m : x ∈ N) : F (x :: N) = 0 := by
  obtain ⟨A, B, rfl⟩ := List.append_of_mem m
  rw [alt_front h]
  have := h A x x B
  have : F (A ++ x :: x :: B) = 0 := by omega
  rw [this]
  omega
theorem alt_dup' {F : List Nat → Int} (h : Alt F) {x : Nat} {A B : List Nat} (m : x ∈ A ++ B) : F (A ++ x :: B) = 0 := by
  have a := alt_front h x A B
  rw [alt_dup h m] at a
  have b := sg_sq A
  have : sg A * (sg A * F (A ++ x :: B)) = 0 := by rw [← a]; omega
  grind

/-- the relation of Plücker, all of it -/
def Plu (F : List Nat → Int) : Prop := ∀ M L, CB.wedge F (fun y => F (y :: M)) L = 0
theorem plu_in {F : List Nat → Int} (p : Plu F) (e : Nat → Int) (N L : List Nat) : wedge (wedge F e) (fun y => F (y :: N)) L = 0 := by
  rw [wedge_comm]
  have : wedge F (fun y => F (y :: N)) = fun _ => 0 := by
    funext M
    exact p N M
  rw [this, wedge_zero]
  rfl
theorem plu_sum {G : List Nat → Int} (e : Nat → Int) (L : List Nat) : ∀ (M : List Nat) (Phi : Nat → List Nat → Int), (∀ N, wedge G (fun y => Phi y N) L = 0) → wedge G (fun y => wedge (Phi y) e M) L = 0
  | [], _, _ => wedge_zero2 L G
  | m :: M, Phi, h => by
    have e1 : (fun y => wedge (Phi y) e (m :: M)) = fun y => e m * Phi y M + (-1) * wedge (fun N => Phi y (m :: N)) e M := by
      funext y
      simp only [wedge]
      grind
    rw [e1, wedge_lin2, h M, plu_sum e L M (fun y N => Phi y (m :: N)) (fun N => h (m :: N))]
    omega
theorem Plu.wedge {F : List Nat → Int} (p : Plu F) (e : Nat → Int) : Plu (CB.wedge F e) := fun M L => by
  have e1 : (fun y => CB.wedge F e (y :: M)) = fun y => F M * e y + (-1) * CB.wedge (fun N => F (y :: N)) e M := by
    funext y
    simp only [CB.wedge]
    grind
  rw [e1, wedge_lin2, wedge_self, plu_sum e L M (fun y N => F (y :: N)) fun N => plu_in p e N L]
  simp

theorem wedge_none {H : List Nat → Int} {h : Nat → Int} : ∀ (B : List Nat), (∀ y ∈ B, h y = 0) → ∀ H : List Nat → Int, wedge H h B = 0
  | [], _, _ => rfl
  | b :: B, k, H => by
    simp only [wedge]
    rw [k b (List.mem_cons_self ..), wedge_none (H := H) B (fun y hy => k y (List.mem_cons_of_mem _ hy))]
    omega
theorem wedge_one {h : Nat → Int} {x : Nat} {B : List Nat} (kB : ∀ y ∈ B, h y = 0) : ∀ (A : List Nat), (∀ y ∈ A, h y = 0) → ∀ H : List Nat → Int, wedge H h (A ++ x :: B) = sg A * (h x * H (A ++ B))
  | [], _, H => by
    show h x * H B - wedge (fun M => H (x :: M)) h B = 1 * (h x * H B)
    rw [wedge_none (H := H) B kB]
    omega
  | a :: A, k, H => by
    show h a * H (A ++ x :: B) - wedge (fun M => H (a :: M)) h (A ++ x :: B) = - sg A * (h x * H (a :: (A ++ B)))
    rw [k a (List.mem_cons_self ..), wedge_one kB A (fun y hy => k y (List.mem_cons_of_mem _ hy))]
    grind

/-- the exchange that makes the division exact -/
theorem exchange {F : List Nat → Int} (a : Alt F) (p : Plu F) (e : Nat → Int) (j c x : Nat) (A B : List Nat) :
    F (A ++ x :: B) * wedge F e (c :: (A ++ j :: B)) = F (A ++ j :: B) * wedge F e (c :: (A ++ x :: B)) - F (A ++ c :: B) * wedge F e (j :: (A ++ x :: B)) := by
  have k := plu_in p e (A ++ B) (j :: c :: (A ++ x :: B))
  have u : wedge (wedge F e) (fun y => F (y :: (A ++ B))) (j :: c :: (A ++ x :: B))
      = F (j :: (A ++ B)) * wedge F e (c :: (A ++ x :: B)) - (F (c :: (A ++ B)) * wedge F e (j :: (A ++ x :: B)) - wedge (fun M => wedge F e (j :: c :: M)) (fun y => F (y :: (A ++ B))) (A ++ x :: B)) := rfl
  rw [u] at k
  rw [wedge_one (fun y hy => alt_dup a (List.mem_append_right A hy)) A (fun y hy => alt_dup a (List.mem_append_left B hy))] at k
  have G := a.wedge e
  have g1 : wedge F e (j :: c :: (A ++ B)) = - wedge F e (c :: j :: (A ++ B)) := G [] j c (A ++ B)
  have g2 : wedge F e (c :: j :: (A ++ B)) = sg A * wedge F e (c :: (A ++ j :: B)) := alt_move G j A [c] B
  rw [g1, g2, alt_front a j, alt_front a c, alt_front a x] at k
  have s := sg_sq A
  generalize wedge F e (c :: (A ++ j :: B)) = w1 at *
  generalize wedge F e (c :: (A ++ x :: B)) = w2 at *
  generalize wedge F e (j :: (A ++ x :: B)) = w3 at *
  generalize F (A ++ x :: B) = f1 at *
  generalize F (A ++ j :: B) = f2 at *
  generalize F (A ++ c :: B) = f3 at *
  generalize sg A = t at *
  grind

/-- the form of no equation -/
def form0 : List Nat → Int
  | [] => 1
  | _ :: _ => 0
theorem alt0 : Alt form0 := fun A x y B => by cases A <;> rfl
theorem plu0 : Plu form0 := fun M L => wedge_zero2 L form0
/-- the form of some equations, the newest first -/
def form : List (Nat → Int) → List Nat → Int
  | [] => form0
  | e :: E => wedge (form E) e
theorem alt_form : ∀ E, Alt (form E)
  | [] => alt0
  | e :: E => (alt_form E).wedge e
theorem plu_form : ∀ E, Plu (form E)
  | [] => plu0
  | e :: E => (plu_form E).wedge e

/-- the places of a list, one after another put out of use by j -/
def repl (F : List Nat → Int) (e : Nat → Int) (j : Nat) : List Nat → List Nat → Int
  | _, [] => 0
  | P, c :: B => e c * F (P ++ j :: B) + repl F e j (P ++ [c]) B
theorem repl_wedge {F : List Nat → Int} (a : Alt F) (e : Nat → Int) (j : Nat) : ∀ (C P : List Nat), sg P * wedge (fun M => F (j :: (P ++ M))) e C = repl F e j P C
  | [], P => by simp [wedge, repl]
  | c :: B, P => by
    have ih := repl_wedge a e j B (P ++ [c])
    rw [sg_snoc] at ih
    simp only [List.append_assoc, List.singleton_append] at ih
    simp only [wedge, repl]
    rw [← ih, alt_front a j P B]
    have := sg_sq P
    grind
theorem wedge_repl {F : List Nat → Int} (a : Alt F) (e : Nat → Int) (j : Nat) (C : List Nat) : wedge F e (j :: C) = e j * F C - repl F e j [] C := by
  have := repl_wedge a e j C []
  simp only [sg, List.nil_append] at this
  simp only [wedge]
  omega

end CB

/- CbSys -/
/-! The program's systems of equations, as plain functions, and what they hold. -/
namespace CB

structure MS where
  pivot : Int
  cols : List Nat
  rows : List (List Int)

/-- rest minus factor times row, place by place -/
def minus (f : Int) (rest row : List Int) : List Int := List.zipWith (fun a b => a - f * b) rest row
def takeOut (eqn : List Int) (rest : List Int) (p : Nat × List Int) : List Int :=
  if eqn.getD p.1 0 ≠ 0 then minus (eqn.getD p.1 0) rest p.2 else rest
def MS.reduced (S : MS) (eqn : List Int) : List Int := (S.cols.zip S.rows).foldl (takeOut eqn) (eqn.map fun a => S.pivot * a)
def MS.cleared (S : MS) (row rest : List Int) (c : Nat) : List Int :=
  List.zipWith (fun a b => (rest.getD c 0 * a - row.getD c 0 * b).fdiv S.pivot) row rest
def firstFilled (l : List Int) : Option Nat := l.findIdx? fun a => a != 0
def MS.wider (S : MS) (eqn : List Int) : Option MS := (firstFilled (S.reduced eqn).dropLast).map fun c =>
  ⟨(S.reduced eqn).getD c 0, S.cols ++ [c], (S.rows.map fun row => S.cleared row (S.reduced eqn) c) ++ [S.reduced eqn]⟩
def MS.empty : MS := ⟨1, [], []⟩
def MS.numbers (S : MS) : List Int :=
  (S.cols.zip S.rows).foldl (fun l p => l.set p.1 (-(p.2.getLastD 0))) (List.replicate S.cols.length 0 ++ [S.pivot])

/-- the value of a whole row at numbers -/
def iv (w : Nat) (row : List Int) (z : Nat → Rat) : Rat := sm w fun j => ((row.getD j 0 : Int) : Rat) * z j

theorem getD_zipWith {α β γ : Type} (f : α → β → γ) (l : List α) (r : List β) (a : α) (b : β) (c : γ) (j : Nat) (h1 : j < l.length) (h2 : j < r.length) :
    (List.zipWith f l r).getD j c = f (l.getD j a) (r.getD j b) := by
  rw [List.getD_eq_getElem?_getD, List.getElem?_zipWith, List.getD_eq_getElem?_getD, List.getD_eq_getElem?_getD, List.getElem?_eq_getElem h1, List.getElem?_eq_getElem h2]
  rfl
theorem minus_length {f : Int} {rest row : List Int} {w : Nat} (h1 : rest.length = w) (h2 : row.length = w) : (minus f rest row).length = w := by
  simp [minus, h1, h2]
theorem takeOut_getD {eqn rest : List Int} {p : Nat × List Int} {w j : Nat} (h1 : rest.length = w) (h2 : p.2.length = w) (hj : j < w) :
    (takeOut eqn rest p).getD j 0 = rest.getD j 0 - eqn.getD p.1 0 * p.2.getD j 0 := by
  unfold takeOut
  split
  · exact getD_zipWith _ _ _ 0 0 0 j (by omega) (by omega)
  · next h =>
    have h : eqn.getD p.1 0 = 0 := Decidable.not_not.mp h
    rw [h]
    omega
theorem takeOut_length {eqn rest : List Int} {p : Nat × List Int} {w : Nat} (h1 : rest.length = w) (h2 : p.2.length = w) : (takeOut eqn rest p).length = w := by
  unfold takeOut
  split
  · exact minus_length h1 h2
  · exact h1

/-- what the equation's factors take out, at place j -/
def outs (eqn : List Int) (j : Nat) : List (Nat × List Int) → Int
  | [] => 0
  | p :: ps => eqn.getD p.1 0 * p.2.getD j 0 + outs eqn j ps
theorem outs_append (eqn : List Int) (j : Nat) : ∀ (a b : List (Nat × List Int)), outs eqn j (a ++ b) = outs eqn j a + outs eqn j b
  | [], b => by simp [outs]
  | p :: a, b => by
    simp only [List.cons_append, outs]
    rw [outs_append eqn j a b]
    omega
theorem outs_reverse (eqn : List Int) (j : Nat) : ∀ (a : List (Nat × List Int)), outs eqn j a.reverse = outs eqn j a
  | [] => rfl
  | p :: a => by
    rw [List.reverse_cons, outs_append, outs_reverse eqn j a]
    simp only [outs]
    omega
theorem foldl_takeOut {eqn : List Int} {w : Nat} : ∀ (ps : List (Nat × List Int)) (rest : List Int), rest.length = w → (∀ p ∈ ps, p.2.length = w) →
    (ps.foldl (takeOut eqn) rest).length = w ∧ ∀ j, j < w → (ps.foldl (takeOut eqn) rest).getD j 0 = rest.getD j 0 - outs eqn j ps
  | [], rest, h, _ => ⟨h, fun j _ => by simp [outs]⟩
  | p :: ps, rest, h, k => by
    have hp := k p (List.mem_cons_self ..)
    obtain ⟨a, b⟩ := foldl_takeOut ps (takeOut eqn rest p) (takeOut_length h hp) fun q hq => k q (List.mem_cons_of_mem _ hq)
    refine ⟨a, fun j hj => ?_⟩
    rw [List.foldl_cons, b j hj, takeOut_getD h hp hj]
    simp only [outs]
    omega

/-- an equation as a function of its place -/
def fn (e : List Int) : Nat → Int := fun j => e.getD j 0
/-- the minors of some equations, the newest first -/
def minor (E : List (List Int)) : List Nat → Int := form (E.map fn)
/-- each row is made of minors: its own column put out of use by the place -/
def Good (F : List Nat → Int) (w : Nat) : List Nat → List (Nat × List Int) → Prop
  | _, [] => True
  | P, p :: B => (p.2.length = w ∧ ∀ j, j < w → p.2.getD j 0 = F (P ++ j :: B.map (·.1))) ∧ Good F w (P ++ [p.1]) B
theorem Good.lengths {F : List Nat → Int} {w : Nat} : ∀ {ps : List (Nat × List Int)} {P : List Nat}, Good F w P ps → ∀ p ∈ ps, p.2.length = w
  | p :: ps, P, g, q, hq => by
    rcases List.mem_cons.mp hq with rfl | h
    · exact g.1.1
    · exact Good.lengths g.2 q h
theorem good_outs {F : List Nat → Int} {w : Nat} (eqn : List Int) {j : Nat} (hj : j < w) : ∀ (ps : List (Nat × List Int)) (P : List Nat), Good F w P ps → outs eqn j ps = repl F (fn eqn) j P (ps.map (·.1))
  | [], _, _ => rfl
  | p :: ps, P, g => by
    simp only [outs, List.map_cons, repl]
    rw [g.1.2 j hj, good_outs eqn hj ps _ g.2]
    rfl
/-- one equation more -/
theorem good_wider {F : List Nat → Int} {w : Nat} (a : Alt F) (p : Plu F) (e : Nat → Int) {c : Nat} (hc : c < w) {rest : List Int} (hl : rest.length = w) {C : List Nat} (hr : ∀ j, j < w → rest.getD j 0 = wedge F e (j :: C))
    (hd : F C ≠ 0) : ∀ (ps : List (Nat × List Int)) (P : List Nat), P ++ ps.map (·.1) = C → Good F w P ps →
    Good (wedge F e) w (c :: P) (ps.map fun q => (q.1, List.zipWith (fun a b => (rest.getD c 0 * a - q.2.getD c 0 * b).fdiv (F C)) q.2 rest))
  | [], _, _, _ => trivial
  | q :: ps, P, hC, g => by
    refine ⟨⟨by simp [g.1.1, hl], fun j hj => ?_⟩, ?_⟩
    · rw [getD_zipWith _ _ _ 0 0 0 j (by rw [g.1.1]; exact hj) (by omega), hr c hc, hr j hj, g.1.2 j hj, g.1.2 c hc]
      have x := exchange a p e j c q.1 P (ps.map (·.1))
      have hC' : P ++ q.1 :: ps.map (·.1) = C := hC
      rw [hC'] at x
      have y : wedge F e (c :: C) * F (P ++ j :: ps.map (·.1)) - F (P ++ c :: ps.map (·.1)) * wedge F e (j :: C) = F C * wedge F e (c :: (P ++ j :: ps.map (·.1))) := by
        rw [x]
        grind
      rw [y, Int.mul_fdiv_cancel_left _ hd]
      show _ = wedge F e (c :: P ++ j :: (ps.map _).map _)
      rw [List.map_map]
      rfl
    · have := good_wider a p e hc hl hr hd ps (P ++ [q.1]) (by simp [← hC]) g.2
      exact this

/-- the columns are places of unknowns -/
structure Rep (w : Nat) (E : List (List Int)) (S : MS) : Prop where
  same : S.cols.length = S.rows.length
  good : Good (minor E) w [] (S.cols.zip S.rows).reverse
  piv : S.pivot = minor E S.cols.reverse
  nz : S.pivot ≠ 0
  low : ∀ c ∈ S.cols, c + 1 < w
  ker : ∀ z : Nat → Rat, (∀ e ∈ E, iv w e z = 0) ↔ ∀ r ∈ S.rows, iv w r z = 0
  count : E.length = S.cols.length

theorem zip_fst {α β : Type} : ∀ (a : List α) (b : List β), a.length = b.length → (a.zip b).map (·.1) = a
  | [], _, _ => rfl
  | x :: a, y :: b, h => by
    have : a.length = b.length := by simpa using h
    simp [zip_fst a b this]
theorem zip_snd {α β : Type} : ∀ (a : List α) (b : List β), a.length = b.length → (a.zip b).map (·.2) = b
  | [], [], _ => rfl
  | x :: a, y :: b, h => by
    have : a.length = b.length := by simpa using h
    simp [zip_snd a b this]

theorem rep_empty (w : Nat) : Rep w [] MS.empty :=
  ⟨rfl, trivial, rfl, by decide, fun c h => absurd h (List.not_mem_nil), fun z => ⟨fun _ r h => absurd h (List.not_mem_nil), fun _ r h => absurd h (List.not_mem_nil)⟩, rfl⟩

section
variable {w : Nat} {E : List (List Int)} {S : MS}
theorem Rep.lengths (R : Rep w E S) : ∀ r ∈ S.rows, r.length = w := by
  intro r hr
  rw [← zip_snd S.cols S.rows R.same] at hr
  obtain ⟨p, hp, rfl⟩ := List.mem_map.mp hr
  exact R.good.lengths p (List.mem_reverse.mpr hp)
theorem Rep.fsts (R : Rep w E S) : ((S.cols.zip S.rows).reverse).map (·.1) = S.cols.reverse := by
  rw [List.map_reverse, zip_fst _ _ R.same]
theorem Rep.rest (R : Rep w E S) {eqn : List Int} (h : eqn.length = w) :
    (S.reduced eqn).length = w ∧ ∀ j, j < w → (S.reduced eqn).getD j 0 = S.pivot * eqn.getD j 0 - outs eqn j (S.cols.zip S.rows) := by
  obtain ⟨a, b⟩ := foldl_takeOut (eqn := eqn) (w := w) (S.cols.zip S.rows) (eqn.map fun a => S.pivot * a) (by rw [List.length_map]; exact h) fun p hp => R.good.lengths p (List.mem_reverse.mpr hp)
  refine ⟨a, fun j hj => ?_⟩
  unfold MS.reduced
  rw [b j hj, getD_map_ _ _ 0 0 j (by omega)]
theorem Rep.restM (R : Rep w E S) {eqn : List Int} (h : eqn.length = w) : ∀ j, j < w → (S.reduced eqn).getD j 0 = wedge (minor E) (fn eqn) (j :: S.cols.reverse) := by
  intro j hj
  rw [(R.rest h).2 j hj, wedge_repl (show Alt (minor E) from alt_form _), ← outs_reverse, good_outs eqn hj _ _ R.good, R.fsts, ← R.piv]
  rw [Int.mul_comm]
  rfl

/-- what the rest is, at any numbers -/
theorem outs_iv (eqn : List Int) (z : Nat → Rat) (w : Nat) : ∀ ps : List (Nat × List Int), (∀ p ∈ ps, iv w p.2 z = 0) → sm w (fun j => ((outs eqn j ps : Int) : Rat) * z j) = 0
  | [], _ => sm_zero fun j _ => by simp [outs]
  | p :: ps, h => by
    have e : sm w (fun j => ((outs eqn j (p :: ps) : Int) : Rat) * z j) = sm w (fun j => ((eqn.getD p.1 0 : Int) : Rat) * (((p.2.getD j 0 : Int) : Rat) * z j) + ((outs eqn j ps : Int) : Rat) * z j) := sm_congr fun j _ => by
      simp only [outs, Rat.intCast_add, Rat.intCast_mul]
      grind
    rw [e, sm_add, sm_mul, outs_iv eqn z w ps fun q hq => h q (List.mem_cons_of_mem _ hq)]
    have := h p (List.mem_cons_self ..)
    unfold iv at this
    rw [this]
    grind
theorem Rep.rest_iv (R : Rep w E S) {eqn : List Int} (h : eqn.length = w) {z : Nat → Rat} (hz : ∀ r ∈ S.rows, iv w r z = 0) :
    iv w (S.reduced eqn) z = (S.pivot : Rat) * iv w eqn z := by
  have o := outs_iv eqn z w (S.cols.zip S.rows) fun p hp => hz p.2 (by
    have := List.mem_map_of_mem (f := (·.2)) hp
    rw [zip_snd _ _ R.same] at this
    exact this)
  unfold iv
  rw [sm_congr (g := fun j => (S.pivot : Rat) * (((eqn.getD j 0 : Int) : Rat) * z j) + (-1) * (((outs eqn j (S.cols.zip S.rows) : Int) : Rat) * z j)) fun j hj => by
    rw [(R.rest h).2 j hj, Rat.intCast_sub, Rat.intCast_mul]
    grind]
  rw [sm_add, sm_mul, sm_mul, o]
  grind
end

theorem first_some {l : List Int} {c : Nat} (h : firstFilled l = some c) : c < l.length ∧ l.getD c 0 ≠ 0 := by
  unfold firstFilled at h
  obtain ⟨a, b, _⟩ := List.findIdx?_eq_some_iff_getElem.mp h
  refine ⟨a, ?_⟩
  rw [List.getD_eq_getElem?_getD, List.getElem?_eq_getElem a]
  simpa using b
theorem first_none {l : List Int} (h : firstFilled l = none) : ∀ j, j < l.length → l.getD j 0 = 0 := by
  intro j hj
  have := List.findIdx?_eq_none_iff.mp h (l[j]) (List.getElem_mem hj)
  rw [List.getD_eq_getElem?_getD, List.getElem?_eq_getElem hj]
  simpa using this

section
variable {w : Nat} {E : List (List Int)} {S : MS} {eqn : List Int}
theorem dropLast_getD {α : Type} (l : List α) (d : α) (j : Nat) (h : j + 1 < l.length) : l.dropLast.getD j d = l.getD j d := by
  rw [List.getD_eq_getElem?_getD, List.getD_eq_getElem?_getD, List.getElem?_dropLast, if_pos (by omega)]

/-- an equation that is taken in -/
theorem Rep.wider (R : Rep w E S) (h : eqn.length = w) {S' : MS} (e : S.wider eqn = some S') : Rep w (eqn :: E) S' := by
  obtain ⟨c, e1, e2⟩ := Option.map_eq_some_iff.mp e
  obtain ⟨hl, hr⟩ := R.rest h
  obtain ⟨hc, hn⟩ := first_some e1
  rw [List.length_dropLast, hl] at hc
  rw [dropLast_getD _ _ _ (by omega)] at hn
  have hM := R.restM h
  subst e2
  have hd : minor E S.cols.reverse ≠ 0 := by rw [← R.piv]; exact R.nz
  have hcl : ∀ r ∈ S.rows, (S.cleared r (S.reduced eqn) c).length = w := fun r hr' => by
    unfold MS.cleared
    rw [List.length_zipWith, R.lengths r hr', hl, Nat.min_self]
  have hcv : ∀ r ∈ S.rows, ∀ z : Nat → Rat, (S.pivot : Rat) * iv w (S.cleared r (S.reduced eqn) c) z = ((S.reduced eqn).getD c 0 : Int) * iv w r z - ((r.getD c 0 : Int) : Rat) * iv w (S.reduced eqn) z := by
    intro r hr' z
    -- the row is one of the good ones: the division is exact
    have ex : ∀ j, j < w → S.pivot * (S.cleared r (S.reduced eqn) c).getD j 0 = (S.reduced eqn).getD c 0 * r.getD j 0 - r.getD c 0 * (S.reduced eqn).getD j 0 := by
      intro j hj
      have hz : r ∈ (S.cols.zip S.rows).map (·.2) := by rw [zip_snd _ _ R.same]; exact hr'
      obtain ⟨p, hp, rfl⟩ := List.mem_map.mp hz
      obtain ⟨A, B, hs⟩ := List.append_of_mem (List.mem_reverse.mpr hp)
      have split : ∀ (A : List (Nat × List Int)) (P : List Nat), Good (minor E) w P (A ++ p :: B) → p.2.length = w ∧ ∀ j, j < w → p.2.getD j 0 = minor E (P ++ A.map (·.1) ++ j :: B.map (·.1)) := by
        intro A
        induction A with
        | nil => intro P g; simpa using g.1
        | cons a A ih =>
          intro P g
          have := ih (P ++ [a.1]) g.2
          simpa using this
      have g := R.good
      rw [hs] at g
      have gs := split A [] g
      have hcols : A.map (·.1) ++ p.1 :: B.map (·.1) = S.cols.reverse := by rw [← R.fsts, hs, List.map_append, List.map_cons]
      unfold MS.cleared
      rw [getD_zipWith _ _ _ 0 0 0 j (by omega) (by omega)]
      have x := exchange (alt_form (E.map fn)) (plu_form (E.map fn)) (fn eqn) j c p.1 (A.map (·.1)) (B.map (·.1))
      rw [hcols] at x
      have e1 := gs.2 j hj
      have e2 := gs.2 c (by omega)
      rw [List.nil_append] at e1 e2
      have x' : (S.reduced eqn).getD c 0 * p.2.getD j 0 - p.2.getD c 0 * (S.reduced eqn).getD j 0 = S.pivot * wedge (minor E) (fn eqn) (c :: (A.map (·.1) ++ j :: B.map (·.1))) := by
        rw [hM c (by omega), hM j hj, e1, e2, R.piv]
        unfold minor
        rw [x]
        grind
      rw [x', Int.mul_fdiv_cancel_left _ R.nz]
    unfold iv
    rw [← sm_mul, ← sm_mul, sm_congr (g := fun j => (((S.reduced eqn).getD c 0 : Int) : Rat) * (((r.getD j 0 : Int) : Rat) * z j) + (-1) * (((r.getD c 0 : Int) : Rat) * ((((S.reduced eqn).getD j 0 : Int) : Rat) * z j))) fun j hj => by
      have q := congrArg (fun i : Int => (i : Rat)) (ex j hj)
      simp only [Rat.intCast_sub, Rat.intCast_mul] at q
      grind]
    rw [sm_add, sm_mul, sm_mul, sm_mul]
    grind
  have hpq : (S.pivot : Rat) ≠ 0 := by
    have := R.nz
    exact_mod_cast this
  have hnq : (((S.reduced eqn).getD c 0 : Int) : Rat) ≠ 0 := by exact_mod_cast hn
  refine ⟨by simp [R.same], ?_, ?_, hn, ?_, ?_, by simp [R.count]⟩
  · show Good (wedge (minor E) (fn eqn)) w [] ((S.cols ++ [c]).zip ((S.rows.map fun row => S.cleared row (S.reduced eqn) c) ++ [S.reduced eqn])).reverse
    rw [List.zip_append (by rw [List.length_map]; exact R.same), List.reverse_append]
    show Good _ w [] ((c, S.reduced eqn) :: (S.cols.zip (S.rows.map fun row => S.cleared row (S.reduced eqn) c)).reverse)
    have hz : (S.cols.zip (S.rows.map fun row => S.cleared row (S.reduced eqn) c)).reverse = (S.cols.zip S.rows).reverse.map fun q => (q.1, S.cleared q.2 (S.reduced eqn) c) := by
      rw [List.zip_map_right, List.map_reverse]
      rfl
    rw [hz]
    refine ⟨⟨hl, fun j hj => ?_⟩, ?_⟩
    · rw [hM j hj, List.nil_append, List.map_map]
      have := R.fsts
      show _ = wedge (minor E) (fn eqn) (j :: ((S.cols.zip S.rows).reverse.map fun q => q.1))
      rw [this]
    · have := good_wider (alt_form (E.map fn)) (plu_form (E.map fn)) (fn eqn) (c := c) (by omega) hl hM hd (S.cols.zip S.rows).reverse [] (by rw [List.nil_append]; exact R.fsts) R.good
      rw [show form (List.map fn E) S.cols.reverse = S.pivot from R.piv.symm] at this
      exact this
  · show (S.reduced eqn).getD c 0 = wedge (minor E) (fn eqn) (S.cols ++ [c]).reverse
    rw [hM c (by omega), List.reverse_append]
    rfl
  · intro q hq
    rcases List.mem_append.mp hq with hq | hq
    · exact R.low q hq
    · rw [List.mem_singleton] at hq
      omega
  · intro z
    constructor
    · intro k r hr'
      have kr := (R.ker z).mp fun e he => k e (List.mem_cons_of_mem _ he)
      have ke := k eqn (List.mem_cons_self ..)
      have krest : iv w (S.reduced eqn) z = 0 := by
        rw [R.rest_iv h kr, ke]
        grind
      rcases List.mem_append.mp hr' with hq | hq
      · obtain ⟨r0, h0, rfl⟩ := List.mem_map.mp hq
        have := hcv r0 h0 z
        rw [kr r0 h0, krest] at this
        grind
      · rw [List.mem_singleton] at hq
        rw [hq]
        exact krest
    · intro k
      have krest := k (S.reduced eqn) (List.mem_append_right _ (List.mem_singleton.mpr rfl))
      have kr : ∀ r ∈ S.rows, iv w r z = 0 := fun r hr' => by
        have a := k (S.cleared r (S.reduced eqn) c) (List.mem_append_left _ (List.mem_map.mpr ⟨r, hr', rfl⟩))
        have := hcv r hr' z
        rw [a, krest] at this
        grind
      intro e he
      rcases List.mem_cons.mp he with rfl | he
      · have := R.rest_iv h kr
        rw [krest] at this
        grind
      · exact (R.ker z).mpr kr e he
/-- an equation that isn't: its coefficients hang on those that are there -/
theorem Rep.dependent (R : Rep w E S) (h : eqn.length = w) (e : S.wider eqn = none) (z : Nat → Rat) (hz : z (w - 1) = 0) (hE : ∀ r ∈ E, iv w r z = 0) : iv w eqn z = 0 := by
  have e1 := Option.map_eq_none_iff.mp e
  obtain ⟨hl, hr⟩ := R.rest h
  have f := first_none e1
  rw [List.length_dropLast, hl] at f
  have k := R.rest_iv h ((R.ker z).mp hE)
  have r0 : iv w (S.reduced eqn) z = 0 := by
    refine sm_zero fun j hj => ?_
    by_cases q : j + 1 < w
    · have := f j (by omega)
      rw [dropLast_getD _ _ _ (by omega)] at this
      rw [this]
      grind
    · rw [show j = w - 1 by omega, hz]
      grind
  have hpq : (S.pivot : Rat) ≠ 0 := by
    have := R.nz
    exact_mod_cast this
  rw [r0] at k
  grind
end
end CB

/- CbSearch -/
/-! Points, the search, and what it finds. -/
namespace CB

/-! ### points -/
def gcdl (l : List Int) : Int := l.foldl (fun d a => (Int.gcd d a : Int)) 0
def lowestPoint (l : List Int) : List Int :=
  l.map fun a => a.fdiv (if l.getLastD 0 < 0 then - gcdl l else gcdl l)
/-- the numbers that a point stands for -/
def toQ (p : List Int) : List Rat := p.dropLast.map fun (a : Int) => (a : Rat) / ((p.getLastD 0 : Int) : Rat)

theorem dvd_foldl_gcd : ∀ (l : List Int) (d k : Int), k ∣ l.foldl (fun d a => (Int.gcd d a : Int)) d ↔ k ∣ d ∧ ∀ a ∈ l, k ∣ a
  | [], d, k => by simp
  | x :: l, d, k => by
    rw [List.foldl_cons, dvd_foldl_gcd l, Int.dvd_coe_gcd_iff]
    constructor
    · rintro ⟨⟨a, b⟩, c⟩
      exact ⟨a, fun y hy => (List.mem_cons.mp hy).elim (fun e => e ▸ b) (fun h => c y h)⟩
    · rintro ⟨a, b⟩
      exact ⟨⟨a, b x (List.mem_cons_self ..)⟩, fun y hy => b y (List.mem_cons_of_mem _ hy)⟩
theorem dvd_gcdl (l : List Int) (k : Int) : k ∣ gcdl l ↔ ∀ a ∈ l, k ∣ a := by
  unfold gcdl
  rw [dvd_foldl_gcd]
  exact ⟨fun h => h.2, fun h => ⟨Int.dvd_zero k, h⟩⟩
theorem foldl_gcd_nonneg : ∀ (l : List Int) (d : Int), 0 ≤ d → 0 ≤ l.foldl (fun d a => (Int.gcd d a : Int)) d
  | [], _, h => h
  | x :: l, d, _ => foldl_gcd_nonneg l _ (Int.natCast_nonneg _)
theorem gcdl_nonneg (l : List Int) : 0 ≤ gcdl l := foldl_gcd_nonneg l 0 (Int.le_refl _)
theorem getLastD_mem {l : List Int} (h : l ≠ []) (d : Int) : l.getLastD d ∈ l := by
  rw [List.getLastD_eq_getLast?, List.getLast?_eq_some_getLast h]
  exact List.getLast_mem h
theorem gcdl_pos {l : List Int} (h : l.getLastD 0 ≠ 0) : 0 < gcdl l := by
  have hne : l ≠ [] := fun e => h (by rw [e]; rfl)
  rcases Int.lt_or_eq_of_le (gcdl_nonneg l) with q | q
  · exact q
  · have := (dvd_gcdl l 0).mp (by rw [← q]; exact Int.dvd_refl 0) _ (getLastD_mem hne 0)
    exact absurd (Int.zero_dvd.mp this) h

/-- the divisor with its sign -/
def dsg (l : List Int) : Int := if l.getLastD 0 < 0 then - gcdl l else gcdl l
theorem dsg_ne {l : List Int} (h : l.getLastD 0 ≠ 0) : dsg l ≠ 0 := by
  have := gcdl_pos h
  unfold dsg
  split <;> omega
theorem dsg_dvd {l : List Int} {a : Int} (h : a ∈ l) : dsg l ∣ a := by
  have := (dvd_gcdl l (gcdl l)).mp (Int.dvd_refl _) a h
  unfold dsg
  split
  · exact Int.neg_dvd.mpr this
  · exact this
theorem lowest_eq (l : List Int) : lowestPoint l = l.map fun a => a.fdiv (dsg l) := rfl
theorem lowest_length (l : List Int) : (lowestPoint l).length = l.length := by simp [lowestPoint]
theorem fdiv_mul_of_dvd {a d : Int} (h : d ∣ a) : a.fdiv d * d = a := by
  obtain ⟨k, rfl⟩ := h
  by_cases e : d = 0
  · subst e
    simp
  · rw [Int.mul_fdiv_cancel_left _ e, Int.mul_comm]
theorem getLastD_map (l : List Int) (f : Int → Int) (h : l ≠ []) : (l.map f).getLastD 0 = f (l.getLastD 0) := by
  rw [List.getLastD_eq_getLast?, List.getLast?_map, List.getLastD_eq_getLast?, List.getLast?_eq_some_getLast h]
  rfl
theorem lowest_last {l : List Int} (h : l.getLastD 0 ≠ 0) : (lowestPoint l).getLastD 0 * dsg l = l.getLastD 0 := by
  have hne : l ≠ [] := fun e => h (by rw [e]; rfl)
  rw [lowest_eq, getLastD_map l _ hne]
  exact fdiv_mul_of_dvd (dsg_dvd (getLastD_mem hne 0))
theorem lowest_pos {l : List Int} (h : l.getLastD 0 ≠ 0) : 0 < (lowestPoint l).getLastD 0 := by
  have a := lowest_last h
  have b := gcdl_pos h
  unfold dsg at a
  split at a
  · next c =>
    rcases Int.lt_trichotomy ((lowestPoint l).getLastD 0) 0 with q | q | q
    · have := Int.mul_nonneg_of_nonpos_of_nonpos (Int.le_of_lt q) (show - gcdl l ≤ 0 by omega)
      omega
    · rw [q] at a
      omega
    · exact q
  · next c =>
    rcases Int.lt_trichotomy ((lowestPoint l).getLastD 0) 0 with q | q | q
    · have := Int.mul_neg_of_neg_of_pos q b
      omega
    · rw [q] at a
      omega
    · exact q
theorem map_congr_mem {α β : Type} {f g : α → β} {l : List α} (h : ∀ a ∈ l, f a = g a) : l.map f = l.map g := List.map_congr_left h
theorem toQ_lowest {l : List Int} (h : l.getLastD 0 ≠ 0) : toQ (lowestPoint l) = toQ l := by
  have hl := lowest_last h
  have hd := dsg_ne h
  have hp := lowest_pos h
  unfold toQ
  have e : (lowestPoint l).dropLast = l.dropLast.map fun a => a.fdiv (dsg l) := by rw [lowest_eq, List.map_dropLast]
  rw [e, List.map_map]
  refine map_congr_mem fun a ha => ?_
  have ha' : a ∈ l := (List.dropLast_sublist l).subset ha
  have x := fdiv_mul_of_dvd (dsg_dvd ha')
  show ((a.fdiv (dsg l) : Int) : Rat) / (((lowestPoint l).getLastD 0 : Int) : Rat) = (a : Rat) / ((l.getLastD 0 : Int) : Rat)
  have x1 : ((a.fdiv (dsg l) : Int) : Rat) * (dsg l : Rat) = (a : Rat) := by rw [← Rat.intCast_mul, x]
  have x2 : (((lowestPoint l).getLastD 0 : Int) : Rat) * (dsg l : Rat) = ((l.getLastD 0 : Int) : Rat) := by rw [← Rat.intCast_mul, hl]
  have n1 : (dsg l : Rat) ≠ 0 := by exact_mod_cast hd
  have n2 : (((lowestPoint l).getLastD 0 : Int) : Rat) ≠ 0 := by
    have : (lowestPoint l).getLastD 0 ≠ 0 := by omega
    exact_mod_cast this
  rw [← x1, ← x2]
  grind

/-- in the one form that equal points share -/
def Canon (p : List Int) : Prop := 0 < p.getLastD 0 ∧ gcdl p = 1
theorem canon_lowest {l : List Int} (h : l.getLastD 0 ≠ 0) : Canon (lowestPoint l) := by
  refine ⟨lowest_pos h, ?_⟩
  have g0 := gcdl_nonneg (lowestPoint l)
  have key : gcdl (lowestPoint l) * gcdl l ∣ gcdl l := by
    rw [dvd_gcdl]
    intro a ha
    have x := fdiv_mul_of_dvd (dsg_dvd ha)
    have y := (dvd_gcdl (lowestPoint l) _).mp (Int.dvd_refl _) (a.fdiv (dsg l)) (by rw [lowest_eq]; exact List.mem_map_of_mem ha)
    have z : gcdl l ∣ dsg l := by
      unfold dsg
      split
      · exact Int.dvd_neg.mpr (Int.dvd_refl _)
      · exact Int.dvd_refl _
    rw [← x]
    exact Int.mul_dvd_mul y z
  have hp := gcdl_pos h
  obtain ⟨k, hk⟩ := key
  have e : gcdl (lowestPoint l) * k = 1 := by
    have : gcdl l * (gcdl (lowestPoint l) * k) = gcdl l * 1 := by
      rw [Int.mul_one]
      calc gcdl l * (gcdl (lowestPoint l) * k) = gcdl (lowestPoint l) * gcdl l * k := by
            rw [Int.mul_comm (gcdl (lowestPoint l)) (gcdl l), Int.mul_assoc]
        _ = gcdl l := hk.symm
    exact Int.eq_of_mul_eq_mul_left (by omega) this
  have d : gcdl (lowestPoint l) ∣ 1 := ⟨k, e.symm⟩
  exact Int.eq_one_of_dvd_one g0 d
theorem dvd_scaled : ∀ (l : List Int) (k m d : Int), k ∣ m * d → (∀ a ∈ l, k ∣ m * a) → k ∣ m * l.foldl (fun d a => (Int.gcd d a : Int)) d
  | [], _, _, _, h, _ => h
  | x :: l, k, m, d, h, t => by
    rw [List.foldl_cons]
    refine dvd_scaled l k m _ ?_ fun a ha => t a (List.mem_cons_of_mem _ ha)
    have := Int.dvd_coe_gcd_iff.mpr ⟨h, t x (List.mem_cons_self ..)⟩
    rw [Int.gcd_mul_left] at this
    have e : ((m.natAbs * d.gcd x : Nat) : Int) = (m.natAbs : Int) * (d.gcd x : Int) := Int.natCast_mul ..
    rw [e] at this
    rcases Int.natAbs_eq m with q | q
    · rw [q]
      exact this
    · rw [q, Int.neg_mul]
      exact Int.dvd_neg.mpr this
theorem toQ_length (p : List Int) : (toQ p).length = p.length - 1 := by simp [toQ]
theorem toQ_getD (p : List Int) (j : Nat) (h : j + 1 < p.length) : (toQ p).getD j 0 = ((p.getD j 0 : Int) : Rat) / ((p.getLastD 0 : Int) : Rat) := by
  unfold toQ
  rw [getD_map_ _ _ (0 : Int) 0 j (by rw [List.length_dropLast]; omega), dropLast_getD _ _ _ h]
theorem getLastD_getD (p : List Int) : p.getLastD 0 = p.getD (p.length - 1) 0 := by
  rw [List.getLastD_eq_getLast?, List.getLast?_eq_getElem?, List.getD_eq_getElem?_getD]
theorem cross {p q : List Int} (hp : 0 < p.getLastD 0) (hq : 0 < q.getLastD 0) (hl : p.length = q.length) (e : toQ p = toQ q) : ∀ j, j < p.length → p.getD j 0 * q.getLastD 0 = q.getD j 0 * p.getLastD 0 := by
  intro j hj
  by_cases c : j + 1 < p.length
  · have a := toQ_getD p j c
    have b := toQ_getD q j (by omega)
    rw [e, b] at a
    have n1 : ((p.getLastD 0 : Int) : Rat) ≠ 0 := by
      have : p.getLastD 0 ≠ 0 := by omega
      exact_mod_cast this
    have n2 : ((q.getLastD 0 : Int) : Rat) ≠ 0 := by
      have : q.getLastD 0 ≠ 0 := by omega
      exact_mod_cast this
    have k : ((p.getD j 0 : Int) : Rat) * ((q.getLastD 0 : Int) : Rat) = ((q.getD j 0 : Int) : Rat) * ((p.getLastD 0 : Int) : Rat) := by grind
    exact_mod_cast k
  · have e1 : p.getD j 0 = p.getLastD 0 := by rw [getLastD_getD, show p.length - 1 = j by omega]
    have e2 : q.getD j 0 = q.getLastD 0 := by rw [getLastD_getD, show q.length - 1 = j by omega]
    rw [e1, e2, Int.mul_comm]
theorem mem_getD {l : List Int} {a : Int} (h : a ∈ l) : ∃ j, j < l.length ∧ l.getD j 0 = a := by
  obtain ⟨j, hj, e⟩ := List.getElem_of_mem h
  exact ⟨j, hj, by rw [List.getD_eq_getElem?_getD, List.getElem?_eq_getElem hj, e]; rfl⟩
theorem canon_dvd {p q : List Int} (hp : Canon p) (hq : Canon q) (hl : p.length = q.length) (e : toQ p = toQ q) : p.getLastD 0 ∣ q.getLastD 0 := by
  have := dvd_scaled p (p.getLastD 0) (q.getLastD 0) 0 (by simp) fun a ha => by
    obtain ⟨j, hj, rfl⟩ := mem_getD ha
    rw [Int.mul_comm, cross hp.1 hq.1 hl e j hj]
    exact Int.dvd_mul_left _ _
  have g : p.foldl (fun d a => (Int.gcd d a : Int)) 0 = 1 := hp.2
  rw [g, Int.mul_one] at this
  exact this
theorem canon_inj {p q : List Int} (hp : Canon p) (hq : Canon q) (hl : p.length = q.length) (e : toQ p = toQ q) : p = q := by
  have d1 := canon_dvd hp hq hl e
  have d2 := canon_dvd hq hp hl.symm e.symm
  have el : p.getLastD 0 = q.getLastD 0 := Int.dvd_antisymm (Int.le_of_lt hp.1) (Int.le_of_lt hq.1) d1 d2
  refine List.ext_getElem hl fun j h1 h2 => ?_
  have c := cross hp.1 hq.1 hl e j h1
  rw [el] at c
  have n : q.getLastD 0 ≠ 0 := by have := hq.1; omega
  have := Int.eq_of_mul_eq_mul_right n c
  rw [List.getD_eq_getElem?_getD, List.getD_eq_getElem?_getD, List.getElem?_eq_getElem h1, List.getElem?_eq_getElem h2] at this
  exact this

/-! ### the one solution of a whole system -/
/-- just the multiples of x let all rows be -/
def Only (n : Nat) (T : List (List Int)) (x : List Rat) : Prop :=
  ∀ z : Nat → Rat, (∀ e ∈ T, iv (n + 1) e z = 0) ↔ ∀ i, i < n → z i = x.getD i 0 * z n

theorem good_split {F : List Nat → Int} {w : Nat} {p : Nat × List Int} {B : List (Nat × List Int)} : ∀ (A : List (Nat × List Int)) (P : List Nat), Good F w P (A ++ p :: B) →
    p.2.length = w ∧ ∀ j, j < w → p.2.getD j 0 = F ((P ++ A.map (·.1)) ++ j :: B.map (·.1))
  | [], P, g => by simpa using g.1
  | a :: A, P, g => by
    have := good_split A (P ++ [a.1]) g.2
    simpa using this
section
variable {w : Nat} {E : List (List Int)} {S : MS}
theorem Rep.own (R : Rep w E S) {p : Nat × List Int} (hp : p ∈ S.cols.zip S.rows) : p.2.getD p.1 0 = S.pivot ∧ ∀ c ∈ S.cols, c ≠ p.1 → p.2.getD c 0 = 0 := by
  obtain ⟨A, B, hs⟩ := List.append_of_mem (List.mem_reverse.mpr hp)
  have g := R.good
  rw [hs] at g
  obtain ⟨_, gs⟩ := good_split A [] g
  have hcols : A.map (·.1) ++ p.1 :: B.map (·.1) = S.cols.reverse := by rw [← R.fsts, hs, List.map_append, List.map_cons]
  rw [List.nil_append] at gs
  have hmem : p.1 ∈ S.cols := List.mem_reverse.mp (by rw [← hcols]; exact List.mem_append_right _ (List.mem_cons_self ..))
  refine ⟨?_, fun c hc hn => ?_⟩
  · rw [gs p.1 (by have := R.low _ hmem; omega), hcols, R.piv]
  · rw [gs c (by have := R.low _ hc; omega)]
    refine alt_dup' (alt_form _) ?_
    have : c ∈ A.map (·.1) ++ p.1 :: B.map (·.1) := by rw [hcols]; exact List.mem_reverse.mpr hc
    rcases List.mem_append.mp this with h | h
    · exact List.mem_append_left _ h
    · rcases List.mem_cons.mp h with h | h
      · exact absurd h hn
      · exact List.mem_append_right _ h
theorem nodup_of_reverse {α : Type} {l : List α} (h : l.reverse.Nodup) : l.Nodup := (List.Perm.nodup_iff (List.reverse_perm l)).mp h
theorem Rep.nodup (R : Rep w E S) : S.cols.Nodup := by
  refine nodup_of_reverse ?_
  have key : ∀ (C P : List Nat), P ++ C = S.cols.reverse → C.Nodup := by
    intro C
    induction C with
    | nil => intro P _; exact List.nodup_nil
    | cons c C ih =>
      intro P h
      refine List.nodup_cons.mpr ⟨fun hm => ?_, ih (P ++ [c]) (by simpa using h)⟩
      have z : minor E (P ++ c :: C) = 0 := alt_dup' (alt_form _) (List.mem_append_right P hm)
      have := R.nz
      rw [R.piv, ← h] at this
      exact this z
  exact key S.cols.reverse [] rfl
end
/-- so many different places below n are all of them -/
theorem all_of_nodup : ∀ (n : Nat) (l : List Nat), l.Nodup → (∀ c ∈ l, c < n) → l.length = n → ∀ i, i < n → i ∈ l
  | 0, _, _, _, _, i, h => absurd h (by omega)
  | n + 1, l, hn, hl, hc, i, hi => by
    by_cases m : n ∈ l
    · by_cases e : i = n
      · rw [e]; exact m
      · have := all_of_nodup n (l.erase n) (hn.erase n) (fun c h => by
          have h1 := List.mem_of_mem_erase h
          have h2 : c ≠ n := fun q => by
            subst q
            exact (List.Nodup.not_mem_erase hn) h
          have := hl c h1
          omega) (by rw [List.length_erase_of_mem m]; omega) i (by omega)
        exact List.mem_of_mem_erase this
    · -- then all lie below n, and there are n + 1 of them: too many
      have low : ∀ c ∈ l, c < n := fun c h => by
        have := hl c h
        have : c ≠ n := fun q => m (q ▸ h)
        omega
      have : l.length ≤ n := by
        have key : ∀ (n : Nat) (l : List Nat), l.Nodup → (∀ c ∈ l, c < n) → l.length ≤ n := by
          intro n
          induction n with
          | zero =>
            intro l _ h
            cases l with
            | nil => exact Nat.le_refl _
            | cons a l => exact absurd (h a (List.mem_cons_self ..)) (by omega)
          | succ n ih =>
            intro l hn h
            have := ih (l.erase n) (hn.erase n) fun c hc => by
              have h1 := List.mem_of_mem_erase hc
              have h2 : c ≠ n := fun q => by
                subst q
                exact (List.Nodup.not_mem_erase hn) hc
              have := h c h1
              omega
            rw [List.length_erase] at this
            split at this <;> omega
        exact key n l hn low
      omega

theorem foldl_set_getD : ∀ (ps : List (Nat × List Int)) (l : List Int) (j : Nat), (∀ p ∈ ps, p.1 ≠ j) →
    (ps.foldl (fun l p => l.set p.1 (-(p.2.getLastD 0))) l).getD j 0 = l.getD j 0
  | [], _, _, _ => rfl
  | p :: ps, l, j, h => by
    rw [List.foldl_cons, foldl_set_getD ps _ j fun q hq => h q (List.mem_cons_of_mem _ hq)]
    rw [List.getD_eq_getElem?_getD, List.getD_eq_getElem?_getD, List.getElem?_set_ne (h p (List.mem_cons_self ..))]
theorem foldl_set_length : ∀ (ps : List (Nat × List Int)) (l : List Int), (ps.foldl (fun l p => l.set p.1 (-(p.2.getLastD 0))) l).length = l.length
  | [], _ => rfl
  | p :: ps, l => by rw [List.foldl_cons, foldl_set_length ps, List.length_set]
theorem foldl_set_at : ∀ (ps : List (Nat × List Int)) (l : List Int), (ps.map (·.1)).Nodup → ∀ p ∈ ps, p.1 < l.length →
    (ps.foldl (fun l p => l.set p.1 (-(p.2.getLastD 0))) l).getD p.1 0 = -(p.2.getLastD 0)
  | q :: ps, l, hn, p, hp, hl => by
    rw [List.map_cons, List.nodup_cons] at hn
    rw [List.foldl_cons]
    rcases List.mem_cons.mp hp with rfl | h
    · rw [foldl_set_getD ps _ p.1 fun r hr e => hn.1 (e ▸ List.mem_map_of_mem (f := (·.1)) hr)]
      rw [List.getD_eq_getElem?_getD, List.getElem?_set_self hl]
      rfl
    · exact foldl_set_at ps _ hn.2 p h (by rw [List.length_set]; exact hl)

section
variable {n : Nat} {E : List (List Int)} {S : MS}
theorem Rep.numbers (R : Rep (n + 1) E S) (h : E.length = n) : S.numbers.length = n + 1 ∧ S.numbers.getLastD 0 = S.pivot ∧ ∀ p ∈ S.cols.zip S.rows, S.numbers.getD p.1 0 = -(p.2.getD n 0) := by
  have hc : S.cols.length = n := by rw [← R.count, h]
  have hl : S.numbers.length = n + 1 := by
    unfold MS.numbers
    rw [foldl_set_length]
    simp [hc]
  refine ⟨hl, ?_, fun p hp => ?_⟩
  · rw [getLastD_getD, hl]
    unfold MS.numbers
    rw [foldl_set_getD _ _ _ fun p hp => by
      have : p.1 ∈ S.cols := (List.of_mem_zip (a := p.1) (b := p.2) hp).1
      have := R.low _ this
      omega]
    rw [List.getD_eq_getElem?_getD, List.getElem?_append_right (by simp [hc])]
    simp [hc]
  · have hm : p.1 ∈ S.cols := (List.of_mem_zip (a := p.1) (b := p.2) hp).1
    have hr : p.2 ∈ S.rows := (List.of_mem_zip (a := p.1) (b := p.2) hp).2
    have lw := R.low _ hm
    unfold MS.numbers
    rw [foldl_set_at _ _ (by rw [zip_fst _ _ R.same]; exact R.nodup) p hp (by simp [hc]; omega)]
    rw [getLastD_getD, R.lengths _ hr]
    rfl
theorem iv_two {w c : Nat} {r : List Int} {z : Nat → Rat} (hc : c < w) (h : ∀ j, j < w → j ≠ c → r.getD j 0 = 0) : iv (w + 1) r z = ((r.getD c 0 : Int) : Rat) * z c + ((r.getD w 0 : Int) : Rat) * z w := by
  show sm w _ + _ = _
  rw [sm_single (i := c) hc fun j hj hn => by rw [h j hj hn]; grind]
/-- the point of a whole system is its one solution -/
theorem Rep.only (R : Rep (n + 1) E S) (h : E.length = n) : Only n E (toQ (lowestPoint S.numbers)) ∧ Canon (lowestPoint S.numbers) ∧ (lowestPoint S.numbers).length = n + 1 := by
  obtain ⟨hl, hp, hv⟩ := R.numbers h
  have hn : S.numbers.getLastD 0 ≠ 0 := by rw [hp]; exact R.nz
  refine ⟨?_, canon_lowest hn, by rw [lowest_length, hl]⟩
  rw [toQ_lowest hn]
  have hpq : (S.pivot : Rat) ≠ 0 := by
    have := R.nz
    exact_mod_cast this
  have hall := all_of_nodup n S.cols R.nodup (fun c hc => by have := R.low c hc; omega) (by rw [← R.count, h])
  intro z
  rw [R.ker z]
  have row : ∀ p ∈ S.cols.zip S.rows, iv (n + 1) p.2 z = (S.pivot : Rat) * z p.1 + ((p.2.getD n 0 : Int) : Rat) * z n := by
    intro p hp'
    have hm : p.1 ∈ S.cols := (List.of_mem_zip (a := p.1) (b := p.2) hp').1
    obtain ⟨a, b⟩ := R.own hp'
    rw [iv_two (c := p.1) (by have := R.low _ hm; omega) fun j hj hne => b j (hall j hj) hne, a]
  have at_ : ∀ p ∈ S.cols.zip S.rows, (toQ S.numbers).getD p.1 0 = -((p.2.getD n 0 : Int) : Rat) / (S.pivot : Rat) := by
    intro p hp'
    have hm : p.1 ∈ S.cols := (List.of_mem_zip (a := p.1) (b := p.2) hp').1
    have := R.low _ hm
    rw [toQ_getD _ _ (by omega), hv p hp', hp, Rat.intCast_neg]
  constructor
  · intro k i hi
    have hi' := hall i hi
    rw [← zip_fst S.cols S.rows R.same] at hi'
    obtain ⟨p, hp', rfl⟩ := List.mem_map.mp hi'
    have hr : p.2 ∈ S.rows := (List.of_mem_zip (a := p.1) (b := p.2) hp').2
    have := k p.2 hr
    rw [row p hp'] at this
    rw [at_ p hp']
    grind
  · intro k r hr
    rw [← zip_snd S.cols S.rows R.same] at hr
    obtain ⟨p, hp', rfl⟩ := List.mem_map.mp hr
    have hm : p.1 ∈ S.cols := (List.of_mem_zip (a := p.1) (b := p.2) hp').1
    have := k p.1 (by have := R.low _ hm; omega)
    rw [at_ p hp'] at this
    rw [row p hp', this]
    grind
end

/-! ### one solution, and the specification's elimination -/
def castRow (e : List Int) : List Rat := e.map fun (a : Int) => (a : Rat)
theorem castRow_getD (e : List Int) (j : Nat) : (castRow e).getD j 0 = ((e.getD j 0 : Int) : Rat) := by
  unfold castRow
  rw [List.getD_eq_getElem?_getD, List.getElem?_map, List.getD_eq_getElem?_getD]
  cases e[j]? <;> rfl
theorem ev_cast (w : Nat) (e : List Int) (z : Nat → Rat) : ev w (castRow e) z = iv w e z := by
  unfold ev iv
  exact sm_congr fun j _ => by rw [castRow_getD]
theorem shape_cast {n : Nat} {T : List (List Int)} (h : T.length = n) (hr : ∀ e ∈ T, e.length = n + 1) : Shape n (n + 1) (T.map castRow) := by
  refine ⟨by rw [List.length_map, h], fun i hi => ?_⟩
  rw [getD_map_ T castRow [] [] i (by omega)]
  unfold castRow
  rw [List.length_map, List.getD_eq_getElem?_getD, List.getElem?_eq_getElem (show i < T.length by omega)]
  exact hr _ (List.getElem_mem _)
theorem getD_mem_ {T : List (List Int)} {i : Nat} (h : i < T.length) : T.getD i [] ∈ T := by
  rw [List.getD_eq_getElem?_getD, List.getElem?_eq_getElem h]
  exact List.getElem_mem _
theorem ker_cast {n : Nat} {T : List (List Int)} (h : T.length = n) (z : Nat → Rat) : Ker n (n + 1) (T.map castRow) z ↔ ∀ e ∈ T, iv (n + 1) e z = 0 := by
  constructor
  · intro k e he
    obtain ⟨i, hi, rfl⟩ := List.getElem_of_mem he
    have := k i (by omega)
    rw [getD_map_ T castRow [] [] i hi, ev_cast, List.getD_eq_getElem?_getD, List.getElem?_eq_getElem hi] at this
    exact this
  · intro k i hi
    rw [getD_map_ T castRow [] [] i (by omega), ev_cast]
    exact k _ (getD_mem_ (by omega))
theorem only_solve {n : Nat} {T : List (List Int)} {x : List Rat} (h : T.length = n) (hr : ∀ e ∈ T, e.length = n + 1) (o : Only n T x) : ∃ y, solveQ (T.map castRow) = some y := by
  cases e : solveQ (T.map castRow) with
  | some y => exact ⟨y, rfl⟩
  | none =>
    obtain ⟨z, z0, ⟨i, hi, hz⟩, k⟩ := solve_none (shape_cast h hr) e
    have := (o z).mp ((ker_cast h z).mp k) i hi
    rw [z0] at this
    exact absurd (by rw [this]; grind) hz
/-- each row of a system with one solution can be given a value alone -/
theorem only_free {n : Nat} {T : List (List Int)} {x : List Rat} (h : T.length = n) (hr : ∀ e ∈ T, e.length = n + 1) (o : Only n T x) (k : Nat) (hk : k < n) :
    ∃ z : Nat → Rat, z n = 0 ∧ iv (n + 1) (T.getD k []) z = 1 ∧ ∀ i, i < n → i ≠ k → iv (n + 1) (T.getD i []) z = 0 := by
  obtain ⟨y, e⟩ := only_solve h hr o
  obtain ⟨v, hv⟩ := solve_any (shape_cast h hr) e k hk
  let z : Nat → Rat := fun j => if j = n then 0 else v j
  have zn : z n = 0 := if_pos rfl
  have key : ∀ i, i < n → iv (n + 1) (T.getD i []) z = if i = k then 1 else 0 := by
    intro i hi
    have := hv i hi
    rw [getD_map_ T castRow [] [] i (by omega)] at this
    rw [← this]
    show sm n _ + _ * z n = _
    rw [zn, sm_congr (g := fun j => (castRow (T.getD i [])).getD j 0 * v j) fun j hj => by
      rw [castRow_getD]
      show _ * (if j = n then 0 else v j) = _
      rw [if_neg (by omega)]]
    grind
  exact ⟨z, zn, by rw [key k hk, if_pos rfl], fun i hi hn => by rw [key i hi, if_neg hn]⟩

/-! ### the search -/
def chain : MS → List (List Int) → Option MS
  | S, [] => some S
  | S, e :: T => (S.wider e).bind fun S' => chain S' T
section
variable {n : Nat}
theorem chain_rep : ∀ {T E : List (List Int)} {S S' : MS}, Rep (n + 1) E S → (∀ e ∈ T, e.length = n + 1) → chain S T = some S' → Rep (n + 1) (T.reverse ++ E) S'
  | [], E, S, S', R, _, h => by
    cases Option.some.inj h
    exact R
  | e :: T, E, S, S', R, hl, h => by
    obtain ⟨S1, e1, e2⟩ := Option.bind_eq_some_iff.mp h
    have := chain_rep (R.wider (hl e (List.mem_cons_self ..)) e1) (fun q hq => hl q (List.mem_cons_of_mem _ hq)) e2
    simpa using this
theorem chain_some : ∀ {T E : List (List Int)} {S : MS} {x : List Rat}, Rep (n + 1) E S → (∀ e ∈ T ++ E, e.length = n + 1) → T.length + E.length = n → Only n (T.reverse ++ E) x → ∃ S', chain S T = some S'
  | [], _, S, _, _, _, _, _ => ⟨S, rfl⟩
  | e :: T, E, S, x, R, hl, hc, o => by
    have he : e.length = n + 1 := hl e (List.mem_append_left _ (List.mem_cons_self ..))
    cases e1 : S.wider e with
    | some S1 =>
      obtain ⟨S', k⟩ := chain_some (T := T) (R.wider he e1) (fun q hq => hl q (by
        rcases List.mem_append.mp hq with h | h
        · exact List.mem_append_left _ (List.mem_cons_of_mem _ h)
        · rcases List.mem_cons.mp h with h | h
          · rw [h]; exact List.mem_append_left _ (List.mem_cons_self ..)
          · exact List.mem_append_right _ h)) (by simp at hc ⊢; omega) (x := x) (by simpa using o)
      exact ⟨S', by show (S.wider e).bind _ = _; rw [e1]; exact k⟩
    | none =>
      -- e hangs on E: then it could not be given a value alone
      exfalso
      have hlen : ((e :: T).reverse ++ E).length = n := by simp at hc ⊢; omega
      obtain ⟨z, zn, z1, z0⟩ := only_free hlen (fun q hq => hl q (by
        rcases List.mem_append.mp hq with h | h
        · exact List.mem_append_left _ (List.mem_reverse.mp h)
        · exact List.mem_append_right _ h)) o T.length (by simp at hc; omega)
      have ge : ((e :: T).reverse ++ E).getD T.length [] = e := by
        rw [List.reverse_cons, List.append_assoc, List.getD_eq_getElem?_getD, List.getElem?_append_right (by simp)]
        simp
      rw [ge] at z1
      have := R.dependent he e1 z zn fun r hr => by
        obtain ⟨i, hi, rfl⟩ := List.getElem_of_mem hr
        have gi : ((e :: T).reverse ++ E).getD (T.length + 1 + i) [] = E[i] := by
          rw [List.getD_eq_getElem?_getD, List.getElem?_append_right (by simp)]
          have : T.length + 1 + i - (e :: T).reverse.length = i := by simp
          rw [this, List.getElem?_eq_getElem hi]
          rfl
        have := z0 (T.length + 1 + i) (by simp at hc; omega) (by omega)
        rw [gi] at this
        exact this
      rw [z1] at this
      exact absurd this (by decide)
end

def search (keep : List Int → Bool) : Nat → MS → List (List Int) → List (List Int) → List (List Int)
  | 0, S, _, found => if !found.contains (lowestPoint S.numbers) && keep (lowestPoint S.numbers) then found ++ [lowestPoint S.numbers] else found
  | k + 1, S, conds, found => (List.range (conds.length - k)).foldl (fun found place => match S.wider (conds.getD place []) with
      | none => found
      | some S' => search keep k S' (conds.drop (place + 1)) found) found

theorem foldl_mem {α β : Type} (step : List β → α → List β) (Phi : β → α → Prop) (h : ∀ found a p, p ∈ step found a ↔ p ∈ found ∨ Phi p a) : ∀ (l : List α) (found : List β) (p : β), p ∈ l.foldl step found ↔ p ∈ found ∨ ∃ a ∈ l, Phi p a
  | [], found, p => by simp
  | a :: l, found, p => by
    rw [List.foldl_cons, foldl_mem step Phi h l, h]
    constructor
    · rintro ((q | q) | ⟨b, hb, q⟩)
      · exact .inl q
      · exact .inr ⟨a, List.mem_cons_self .., q⟩
      · exact .inr ⟨b, List.mem_cons_of_mem _ hb, q⟩
    · rintro (q | ⟨b, hb, q⟩)
      · exact .inl (.inl q)
      · rcases List.mem_cons.mp hb with rfl | hb
        · exact .inl (.inr q)
        · exact .inr ⟨b, hb, q⟩
theorem sub_place {k : Nat} : ∀ (conds T : List (List Int)), (T.Sublist conds ∧ T.length = k + 1) ↔ ∃ place, place < conds.length - k ∧ ∃ T', T'.Sublist (conds.drop (place + 1)) ∧ T'.length = k ∧ T = conds.getD place [] :: T'
  | [], T => by
    constructor
    · rintro ⟨a, b⟩
      cases List.sublist_nil.mp a
      simp at b
    · rintro ⟨p, hp, _⟩
      simp at hp
  | c :: conds, T => by
    constructor
    · rintro ⟨a, b⟩
      cases a with
      | cons _ a =>
        obtain ⟨p, hp, T', h1, h2, h3⟩ := (sub_place conds T).mp ⟨a, b⟩
        exact ⟨p + 1, by simp; omega, T', h1, h2, h3⟩
      | cons_cons _ a =>
        rename_i T'
        have hk : T'.length = k := by simpa using b
        have := a.length_le
        exact ⟨0, by simp; omega, T', a, hk, rfl⟩
    · rintro ⟨p, hp, T', h1, h2, rfl⟩
      cases p with
      | zero => exact ⟨List.Sublist.cons_cons _ h1, by simp [h2]⟩
      | succ p =>
        have := (sub_place conds (conds.getD p [] :: T')).mpr ⟨p, by simp at hp; omega, T', h1, h2, rfl⟩
        exact ⟨List.Sublist.cons _ this.1, this.2⟩
theorem search_mem (keep : List Int → Bool) : ∀ (k : Nat) (S : MS) (conds found : List (List Int)) (p : List Int),
    p ∈ search keep k S conds found ↔ p ∈ found ∨ (keep p = true ∧ ∃ T S', T.Sublist conds ∧ T.length = k ∧ chain S T = some S' ∧ p = lowestPoint S'.numbers)
  | 0, S, conds, found, p => by
    have e : (∃ T S', T.Sublist conds ∧ T.length = 0 ∧ chain S T = some S' ∧ p = lowestPoint S'.numbers) ↔ p = lowestPoint S.numbers := by
      constructor
      · rintro ⟨T, S', _, h, c, e⟩
        cases List.length_eq_zero_iff.mp h
        cases Option.some.inj c
        exact e
      · intro e
        exact ⟨[], S, List.nil_sublist _, rfl, rfl, e⟩
    rw [e]
    unfold search
    generalize lowestPoint S.numbers = q
    by_cases h : q ∈ found
    · rw [if_neg (by simp [h])]
      constructor
      · exact .inl
      · rintro (a | ⟨_, rfl⟩)
        · exact a
        · exact h
    · cases hk : keep q with
      | false =>
        rw [if_neg (by simp)]
        constructor
        · exact .inl
        · rintro (a | ⟨b, rfl⟩)
          · exact a
          · rw [hk] at b; cases b
      | true =>
        rw [if_pos (by simp [h])]
        rw [List.mem_append, List.mem_singleton]
        constructor
        · rintro (a | rfl)
          · exact .inl a
          · exact .inr ⟨hk, rfl⟩
        · rintro (a | ⟨_, rfl⟩)
          · exact .inl a
          · exact .inr rfl
  | k + 1, S, conds, found, p => by
    have st : ∀ (found : List (List Int)) (place : Nat) (p : List Int), p ∈ (match S.wider (conds.getD place []) with
        | none => found
        | some S' => search keep k S' (conds.drop (place + 1)) found) ↔ p ∈ found ∨ (keep p = true ∧ ∃ S1 T S', S.wider (conds.getD place []) = some S1 ∧ T.Sublist (conds.drop (place + 1)) ∧ T.length = k ∧ chain S1 T = some S' ∧ p = lowestPoint S'.numbers) := by
      intro found place p
      cases e : S.wider (conds.getD place []) with
      | none =>
        constructor
        · exact .inl
        · rintro (a | ⟨_, S1, T, S', h, _⟩)
          · exact a
          · cases h
      | some S1 =>
        show p ∈ search keep k S1 _ found ↔ _
        rw [search_mem keep k S1]
        constructor
        · rintro (a | ⟨b, T, S', c⟩)
          · exact .inl a
          · exact .inr ⟨b, S1, T, S', rfl, c⟩
        · rintro (a | ⟨b, S2, T, S', h, c⟩)
          · exact .inl a
          · cases Option.some.inj h
            exact .inr ⟨b, T, S', c⟩
    unfold search
    rw [foldl_mem _ _ st]
    constructor
    · rintro (a | ⟨place, hp, b, S1, T, S', h1, h2, h3, h4, h5⟩)
      · exact .inl a
      · have := (sub_place conds (conds.getD place [] :: T)).mpr ⟨place, List.mem_range.mp hp, T, h2, h3, rfl⟩
        exact .inr ⟨b, conds.getD place [] :: T, S', this.1, this.2, by show (S.wider _).bind _ = _; rw [h1]; exact h4, h5⟩
    · rintro (a | ⟨b, T, S', h1, h2, h3, h4⟩)
      · exact .inl a
      · obtain ⟨place, hp, T', t1, t2, rfl⟩ := (sub_place conds T).mp ⟨h1, h2⟩
        obtain ⟨S1, e1, e2⟩ := Option.bind_eq_some_iff.mp h3
        exact .inr ⟨place, List.mem_range.mpr hp, b, S1, T', S', e1, t1, t2, e2, h4⟩
theorem foldl_keeps {α β : Type} (step : β → α → β) (I : β → Prop) (h : ∀ b a, I b → I (step b a)) : ∀ (l : List α) (b : β), I b → I (l.foldl step b)
  | [], _, i => i
  | a :: l, b, i => foldl_keeps step I h l _ (h b a i)
theorem search_nodup (keep : List Int → Bool) : ∀ (k : Nat) (S : MS) (conds found : List (List Int)), found.Nodup → (search keep k S conds found).Nodup
  | 0, S, conds, found, h => by
    unfold search
    split
    · next c =>
      simp only [Bool.and_eq_true, Bool.not_eq_true', List.contains_eq_mem, decide_eq_false_iff_not] at c
      rw [List.nodup_append]
      refine ⟨h, by simp, fun a ha b hb => ?_⟩
      rw [List.mem_singleton] at hb
      intro e
      exact c.1 (hb ▸ e ▸ ha)
    · exact h
  | k + 1, S, conds, found, h => by
    unfold search
    refine foldl_keeps _ List.Nodup (fun b place i => ?_) _ _ h
    cases S.wider (conds.getD place []) with
    | none => exact i
    | some S' => exact search_nodup keep k S' _ b i

/-- what a search from a system finds: the kept points that are the one solution of it and some of the conditions -/
theorem search_finds {n k : Nat} {keep : List Int → Bool} {E : List (List Int)} {S : MS} {conds : List (List Int)} (R : Rep (n + 1) E S) (hE : ∀ e ∈ E, e.length = n + 1) (hc : ∀ e ∈ conds, e.length = n + 1) (hk : k + E.length = n) (p : List Int) :
    p ∈ search keep k S conds [] ↔ keep p = true ∧ Canon p ∧ p.length = n + 1 ∧ ∃ T, T.Sublist conds ∧ T.length = k ∧ Only n (T ++ E) (toQ p) := by
  have perm : ∀ (T : List (List Int)) (x : List Rat), Only n (T.reverse ++ E) x ↔ Only n (T ++ E) x := by
    intro T x
    unfold Only
    constructor <;> intro h z <;> rw [← h z] <;> constructor <;> intro a e he <;> exact a e (by simpa using he)
  rw [search_mem]
  constructor
  · rintro (a | ⟨b, T, S', h1, h2, h3, rfl⟩)
    · exact absurd a List.not_mem_nil
    · have R' := chain_rep R (fun e he => hc e (h1.subset he)) h3
      have o := R'.only (by simp [h2]; omega)
      exact ⟨b, o.2.1, o.2.2, T, h1, h2, (perm T _).mp o.1⟩
  · rintro ⟨b, hcan, hlen, T, h1, h2, o⟩
    have o' := (perm T _).mpr o
    obtain ⟨S', h3⟩ := chain_some (T := T) R (fun e he => by
      rcases List.mem_append.mp he with h | h
      · exact hc e (h1.subset h)
      · exact hE e h) (by omega) o'
    have R' := chain_rep R (fun e he => hc e (h1.subset he)) h3
    obtain ⟨u, c2, l2⟩ := R'.only (by simp [h2]; omega)
    refine .inr ⟨b, T, S', h1, h2, h3, ?_⟩
    -- both are the one solution
    refine canon_inj hcan c2 (by rw [hlen, l2]) (List.ext_getElem (by rw [toQ_length, toQ_length, hlen, l2]) fun i i1 i2 => ?_)
    let z : Nat → Rat := fun j => if j = n then 1 else (toQ p).getD j 0
    have zn : z n = 1 := if_pos rfl
    have zi : ∀ i, i < n → z i = (toQ p).getD i 0 := fun i hi => if_neg (by omega)
    have hi : i < n := by rw [toQ_length, hlen] at i1; omega
    have k1 := (o' z).mpr fun i hi => by rw [zi i hi, zn]; grind
    have k2 := (u z).mp k1 i hi
    rw [zi i hi, zn] at k2
    rw [List.getD_eq_getElem?_getD, List.getD_eq_getElem?_getD, List.getElem?_eq_getElem i1, List.getElem?_eq_getElem i2] at k2
    have k3 : (toQ p)[i] = (toQ (lowestPoint S'.numbers))[i] * 1 := k2
    grind
end CB

/- CbSpec -/
/-! Corners and rays of the specification are what the search finds. -/
namespace CB
open Lrx1 (Fraction)
open Lrx6 (Constraint)

structure MP where
  width : Nat
  rows : List (List Int)
  goal : List Int

def rowOf (c : Constraint) : List Int := c.coefficients ++ [-c.bound]
def mpOf (P : Lrx6.Program) : MP := ⟨P.variables, P.constraints.map rowOf, P.objective⟩
/-- constraints of as many coefficients as there are variables -/
def WF (P : Lrx6.Program) : Prop := ∀ c ∈ P.constraints, c.coefficients.length = P.variables

def idot (a p : List Int) : Int := (List.zipWith (fun x y => x * y) a p).sum
def keepM (rows : List (List Int)) (p : List Int) : Bool := p.all (fun a => decide (0 ≤ a)) && rows.all fun r => decide (idot r p ≤ 0)
def signRow (n j : Nat) : List Int := (List.replicate (n + 1) 0).set j 1
def signRows (n : Nat) : List (List Int) := (List.range n).map (signRow n)
def cornersM (M : MP) : List (List Int) := search (keepM M.rows) M.width MS.empty (signRows M.width ++ M.rows) []
def coneM (M : MP) : MP := ⟨M.width, M.rows.map fun r => r.dropLast ++ [0], M.goal⟩
def oneRow (n : Nat) : List Int := List.replicate n 1 ++ [-1]
def raysM (M : MP) : List (List Int) := match MS.empty.wider (oneRow M.width) with
  | none => []
  | some one => search (keepM (coneM M).rows) (M.width - 1) one (signRows M.width ++ (coneM M).rows) []

/-! ### feasible vectors -/
def feasQ (P : Lrx6.Program) (q : List Rat) : Prop := q.length = P.variables ∧ (∀ a ∈ q, 0 ≤ a) ∧ ∀ c ∈ P.constraints, vd c.coefficients q ≤ (c.bound : Rat)
theorem nonneg_fr (q : List Rat) : Lrx6.isNonnegative (q.map fr) = true ↔ ∀ a ∈ q, 0 ≤ a := by
  unfold Lrx6.isNonnegative
  rw [List.all_eq_true]
  constructor
  · intro h a ha
    have := h (fr a) (List.mem_map_of_mem ha)
    rw [zero_fr, le_fr] at this
    simpa using this
  · intro h a ha
    obtain ⟨b, hb, rfl⟩ := List.mem_map.mp ha
    rw [zero_fr, le_fr]
    simpa using h b hb
theorem satisfies_fr (c : Constraint) (q : List Rat) : Lrx6.satisfies (q.map fr) c = true ↔ vd c.coefficients q ≤ (c.bound : Rat) := by
  unfold Lrx6.satisfies
  rw [dot_fr, whole_fr, le_fr]
  simp
theorem feas_fr (P : Lrx6.Program) (q : List Rat) : Lrx6.isFeasible P (q.map fr) = true ↔ feasQ P q := by
  unfold Lrx6.isFeasible feasQ
  rw [Bool.and_eq_true, Bool.and_eq_true, nonneg_fr, List.all_eq_true, decide_eq_true_eq, List.length_map]
  constructor
  · rintro ⟨a, b, c⟩
    exact ⟨a, b, fun k hk => (satisfies_fr k q).mp (c k hk)⟩
  · rintro ⟨a, b, c⟩
    exact ⟨a, b, fun k hk => (satisfies_fr k q).mpr (c k hk)⟩

theorem idot_nil (p : List Int) : idot [] p = 0 := rfl
theorem idot_cons (a : Int) (r : List Int) (x : Int) (p : List Int) : idot (a :: r) (x :: p) = a * x + idot r p := by simp [idot]
theorem idot_append : ∀ (r p : List Int) (a x : Int), r.length = p.length → idot (r ++ [a]) (p ++ [x]) = idot r p + a * x
  | [], [], a, x, _ => by simp [idot]
  | b :: r, y :: p, a, x, h => by
    have := idot_append r p a x (by simpa using h)
    rw [List.cons_append, List.cons_append, idot_cons, this, idot_cons]
    omega
theorem vd_scaled {d : Rat} (hd : d ≠ 0) : ∀ (a p : List Int), vd a (p.map fun (x : Int) => (x : Rat) / d) * d = ((idot a p : Int) : Rat)
  | [], p => by simp [idot]
  | c :: a, [] => by simp [idot]
  | c :: a, x :: p => by
    have := vd_scaled hd a p
    rw [List.map_cons, vd_cons, idot_cons, Rat.intCast_add, Rat.intCast_mul]
    grind
theorem snoc_of {p : List Int} (h : p ≠ []) : p = p.dropLast ++ [p.getLastD 0] := by
  rw [List.getLastD_eq_getLast?, List.getLast?_eq_some_getLast h]
  exact (List.dropLast_concat_getLast h).symm
theorem idot_row {a p : List Int} {b : Int} (h : p.length = a.length + 1) : idot (a ++ [b]) p = idot a p.dropLast + b * p.getLastD 0 := by
  have hne : p ≠ [] := fun e => by rw [e] at h; simp at h
  conv => lhs; rw [snoc_of hne]
  exact idot_append a p.dropLast b _ (by rw [List.length_dropLast]; omega)
theorem vd_toQ {p : List Int} (hp : 0 < p.getLastD 0) (a : List Int) : vd a (toQ p) * ((p.getLastD 0 : Int) : Rat) = ((idot a p.dropLast : Int) : Rat) := by
  have n2 : ((p.getLastD 0 : Int) : Rat) ≠ 0 := by
    have : p.getLastD 0 ≠ 0 := by omega
    exact_mod_cast this
  exact vd_scaled n2 a p.dropLast
theorem row_le {p : List Int} (hp : 0 < p.getLastD 0) (c : Constraint) (h : p.length = c.coefficients.length + 1) : idot (rowOf c) p ≤ 0 ↔ vd c.coefficients (toQ p) ≤ (c.bound : Rat) := by
  have e := vd_toQ hp c.coefficients
  have hq : (0 : Rat) < ((p.getLastD 0 : Int) : Rat) := by exact_mod_cast hp
  unfold rowOf
  rw [idot_row h]
  have k : (idot c.coefficients p.dropLast + -c.bound * p.getLastD 0 ≤ 0) ↔ ((idot c.coefficients p.dropLast : Int) : Rat) ≤ (c.bound : Rat) * ((p.getLastD 0 : Int) : Rat) := by
    rw [← Rat.intCast_mul, Rat.intCast_le_intCast, Int.neg_mul]
    omega
  rw [k, ← e]
  constructor
  · intro h
    exact Rat.le_of_mul_le_mul_right h hq
  · intro h
    exact Rat.mul_le_mul_of_nonneg_right h (Rat.le_of_lt hq)
theorem nonneg_toQ {p : List Int} (hp : 0 < p.getLastD 0) : (∀ a ∈ p, 0 ≤ a) ↔ ∀ q ∈ toQ p, (0 : Rat) ≤ q := by
  have hne : p ≠ [] := fun e => by rw [e] at hp; exact absurd hp (by decide)
  have hq : (0 : Rat) < ((p.getLastD 0 : Int) : Rat) := by exact_mod_cast hp
  constructor
  · intro h q hq'
    obtain ⟨a, ha, rfl⟩ := List.mem_map.mp hq'
    have := h a ((List.dropLast_sublist p).subset ha)
    have ha' : (0 : Rat) ≤ (a : Rat) := by exact_mod_cast this
    rw [Rat.div_def]
    exact Rat.mul_nonneg ha' (Rat.le_of_lt (Rat.inv_pos.mpr hq))
  · intro h a ha
    rw [snoc_of hne] at ha
    rcases List.mem_append.mp ha with ha | ha
    · have := h _ (List.mem_map_of_mem (f := fun (x : Int) => (x : Rat) / ((p.getLastD 0 : Int) : Rat)) ha)
      have k : (0 : Rat) * ((p.getLastD 0 : Int) : Rat) ≤ (a : Rat) / ((p.getLastD 0 : Int) : Rat) * ((p.getLastD 0 : Int) : Rat) := Rat.mul_le_mul_of_nonneg_right this (Rat.le_of_lt hq)
      rw [Rat.div_mul_cancel (by grind), Rat.zero_mul] at k
      exact_mod_cast k
    · rw [List.mem_singleton] at ha
      omega
theorem keep_iff {P : Lrx6.Program} (wf : WF P) {p : List Int} (hp : 0 < p.getLastD 0) (hl : p.length = P.variables + 1) : keepM (mpOf P).rows p = true ↔ feasQ P (toQ p) := by
  unfold keepM feasQ mpOf
  rw [Bool.and_eq_true, List.all_eq_true, List.all_eq_true]
  have l : (toQ p).length = P.variables := by rw [toQ_length, hl]; rfl
  constructor
  · rintro ⟨a, b⟩
    refine ⟨l, (nonneg_toQ hp).mp fun x hx => by simpa using a x hx, fun c hc => ?_⟩
    have := b (rowOf c) (List.mem_map_of_mem hc)
    exact (row_le hp c (by rw [hl, wf c hc])).mp (by simpa using this)
  · rintro ⟨_, a, b⟩
    refine ⟨fun x hx => by simpa using (nonneg_toQ hp).mpr a x hx, fun r hr => ?_⟩
    obtain ⟨c, hc, rfl⟩ := List.mem_map.mp hr
    simpa using (row_le hp c (by rw [hl, wf c hc])).mpr (b c hc)

/-! ### one solution of chosen constraints -/
def specRow (c : Constraint) : List Rat := castRow (c.coefficients ++ [c.bound])
theorem corner_fr (T : List Constraint) : Lrx6.corner T = (solveQ (T.map specRow)).map fun x => x.map fr := by
  unfold Lrx6.corner
  rw [← solve_fr]
  congr 1
  unfold mf
  rw [List.map_map]
  apply List.map_congr_left
  intro c _
  show _ = (castRow (c.coefficients ++ [c.bound])).map fr
  unfold castRow
  rw [List.map_map, List.map_append]
  rfl
/-- the last number with its sign changed -/
def flip (n : Nat) (z : Nat → Rat) : Nat → Rat := fun j => if j = n then - z n else z j
theorem flip_flip (n : Nat) (z : Nat → Rat) : flip n (flip n z) = z := by
  funext j
  unfold flip
  by_cases h : j = n
  · subst h
    simp
  · simp [h]
theorem spec_row {n : Nat} {c : Constraint} (h : c.coefficients.length = n) (z : Nat → Rat) : ev (n + 1) (specRow c) (flip n z) = iv (n + 1) (rowOf c) z := by
  show sm n _ + _ = sm n _ + _
  have a : ∀ j, j < n → (specRow c).getD j 0 * flip n z j = (((rowOf c).getD j 0 : Int) : Rat) * z j := fun j hj => by
    unfold specRow rowOf flip
    rw [castRow_getD, if_neg (by omega)]
    simp only [List.getD_eq_getElem?_getD]
    rw [List.getElem?_append_left (by omega), List.getElem?_append_left (by omega)]
  rw [sm_congr a]
  have e1 : (c.coefficients ++ [c.bound]).getD n 0 = c.bound := by
    rw [List.getD_eq_getElem?_getD, List.getElem?_append_right (by omega), h]
    simp
  have e2 : (c.coefficients ++ [-c.bound]).getD n 0 = -c.bound := by
    rw [List.getD_eq_getElem?_getD, List.getElem?_append_right (by omega), h]
    simp
  unfold specRow rowOf flip
  show _ + (castRow (c.coefficients ++ [c.bound])).getD n 0 * (if n = n then - z n else z n) = _ + (((c.coefficients ++ [-c.bound]).getD n 0 : Int) : Rat) * z n
  rw [castRow_getD, if_pos rfl, e1, e2, Rat.intCast_neg]
  grind
theorem spec_shape {n : Nat} {T : List Constraint} (h : T.length = n) (hc : ∀ c ∈ T, c.coefficients.length = n) : Shape n (n + 1) (T.map specRow) := by
  have : T.map specRow = (T.map fun c => c.coefficients ++ [c.bound]).map castRow := by
    rw [List.map_map]
    rfl
  rw [this]
  refine shape_cast (by rw [List.length_map, h]) fun e he => ?_
  obtain ⟨c, hc', rfl⟩ := List.mem_map.mp he
  simp [hc c hc']
theorem spec_ker {n : Nat} {T : List Constraint} (h : T.length = n) (hc : ∀ c ∈ T, c.coefficients.length = n) (z : Nat → Rat) :
    Ker n (n + 1) (T.map specRow) (flip n z) ↔ ∀ e ∈ T.map rowOf, iv (n + 1) e z = 0 := by
  constructor
  · intro k e he
    obtain ⟨c, hc', rfl⟩ := List.mem_map.mp he
    obtain ⟨i, hi, rfl⟩ := List.getElem_of_mem hc'
    have := k i (by omega)
    rw [getD_map_ T specRow ⟨[], 0⟩ [] i hi, List.getD_eq_getElem?_getD, List.getElem?_eq_getElem hi] at this
    rw [← spec_row (hc _ hc')]
    exact this
  · intro k i hi
    rw [getD_map_ T specRow ⟨[], 0⟩ [] i (by omega), List.getD_eq_getElem?_getD, List.getElem?_eq_getElem (show i < T.length by omega)]
    show ev (n + 1) (specRow T[i]) _ = 0
    rw [spec_row (hc _ (List.getElem_mem _))]
    exact k _ (List.mem_map_of_mem (List.getElem_mem _))
theorem ones_z {n : Nat} {q : List Rat} : ∃ z : Nat → Rat, z n = 1 ∧ ∀ i, i < n → z i = q.getD i 0 :=
  ⟨fun j => if j = n then 1 else q.getD j 0, if_pos rfl, fun i hi => if_neg (by omega)⟩
theorem only_unique {n : Nat} {T : List (List Int)} {x y : List Rat} (hx : x.length = n) (hy : y.length = n) (a : Only n T x) (b : Only n T y) : x = y := by
  refine List.ext_getElem (by omega) fun i i1 i2 => ?_
  obtain ⟨z, zn, zi⟩ := ones_z (n := n) (q := x)
  have k := (b z).mp ((a z).mpr fun i hi => by rw [zi i hi, zn]; grind) i (by omega)
  rw [zi i (by omega), zn, List.getD_eq_getElem?_getD, List.getD_eq_getElem?_getD, List.getElem?_eq_getElem i1, List.getElem?_eq_getElem i2] at k
  have k3 : x[i] = y[i] * 1 := k
  grind
theorem corner_iff {n : Nat} {T : List Constraint} (h : T.length = n) (hc : ∀ c ∈ T, c.coefficients.length = n) (x : List Rat) :
    solveQ (T.map specRow) = some x ↔ x.length = n ∧ Only n (T.map rowOf) x := by
  have S := spec_shape h hc
  have key : ∀ y, solveQ (T.map specRow) = some y → y.length = n ∧ Only n (T.map rowOf) y := by
    intro y e
    obtain ⟨a, b⟩ := solve_some S e
    refine ⟨a, fun z => ?_⟩
    rw [← spec_ker h hc z, b (flip n z)]
    have fn' : flip n z n = - z n := if_pos rfl
    constructor
    · intro k i hi
      have := k i hi
      rw [fn', show flip n z i = z i from if_neg (by omega)] at this
      grind
    · intro k i hi
      rw [fn', show flip n z i = z i from if_neg (by omega), k i hi]
      grind
  constructor
  · exact key x
  · rintro ⟨l, o⟩
    cases e : solveQ (T.map specRow) with
    | some y =>
      obtain ⟨ly, oy⟩ := key y e
      rw [only_unique l ly o oy]
    | none =>
      obtain ⟨z, z0, ⟨i, hi, hz⟩, k⟩ := solve_none S e
      have k' := (spec_ker h hc (flip n z)).mp (by rw [flip_flip]; exact k)
      have := (o (flip n z)).mp k' i hi
      rw [show flip n z n = - z n from if_pos rfl, z0, show flip n z i = z i from if_neg (by omega)] at this
      exact absurd (by rw [this]; grind) hz

theorem choose_iff : ∀ (k : Nat) (l T : List Constraint), T ∈ Lrx6.choose k l ↔ T.Sublist l ∧ T.length = k
  | 0, l, T => by
    have : Lrx6.choose 0 l = [[]] := by cases l <;> rfl
    rw [this, List.mem_singleton]
    constructor
    · rintro rfl
      exact ⟨List.nil_sublist _, rfl⟩
    · rintro ⟨_, h⟩
      exact List.length_eq_zero_iff.mp h
  | k + 1, [], T => by
    constructor
    · intro h
      cases h
    · rintro ⟨a, b⟩
      cases List.sublist_nil.mp a
      simp at b
  | k + 1, c :: l, T => by
    show T ∈ (Lrx6.choose k l).map (fun tail => c :: tail) ++ Lrx6.choose (k + 1) l ↔ _
    rw [List.mem_append, List.mem_map, choose_iff (k + 1) l]
    constructor
    · rintro (⟨t, ht, rfl⟩ | ⟨a, b⟩)
      · have := (choose_iff k l t).mp ht
        exact ⟨this.1.cons_cons c, by simp [this.2]⟩
      · exact ⟨a.cons c, b⟩
    · rintro ⟨a, b⟩
      cases a with
      | cons _ a => exact .inr ⟨a, b⟩
      | cons_cons _ a => exact .inl ⟨_, (choose_iff k l _).mpr ⟨a, by simpa using b⟩, rfl⟩

theorem all_wf {P : Lrx6.Program} (wf : WF P) : ∀ c ∈ Lrx6.allConstraints P, c.coefficients.length = P.variables := by
  intro c hc
  unfold Lrx6.allConstraints at hc
  rcases List.mem_append.mp hc with h | h
  · exact wf c h
  · obtain ⟨j, _, rfl⟩ := List.mem_map.mp h
    simp
theorem spec_corners {P : Lrx6.Program} (wf : WF P) (x : List Fraction) : x ∈ Lrx6.corners P ↔
    ∃ q : List Rat, x = q.map fr ∧ feasQ P q ∧ ∃ T : List Constraint, T.Sublist (Lrx6.allConstraints P) ∧ T.length = P.variables ∧ Only P.variables (T.map rowOf) q := by
  unfold Lrx6.corners
  rw [List.mem_filter, List.mem_filterMap]
  constructor
  · rintro ⟨⟨T, hT, e⟩, hf⟩
    obtain ⟨h1, h2⟩ := (choose_iff _ _ _).mp hT
    rw [corner_fr] at e
    obtain ⟨q, e1, rfl⟩ := Option.map_eq_some_iff.mp e
    obtain ⟨l, o⟩ := (corner_iff h2 (fun c hc => all_wf wf c (h1.subset hc)) q).mp e1
    exact ⟨q, rfl, (feas_fr P q).mp hf, T, h1, h2, o⟩
  · rintro ⟨q, rfl, f, T, h1, h2, o⟩
    refine ⟨⟨T, (choose_iff _ _ _).mpr ⟨h1, h2⟩, ?_⟩, (feas_fr P q).mpr f⟩
    rw [corner_fr, (corner_iff h2 (fun c hc => all_wf wf c (h1.subset hc)) q).mpr ⟨f.1, o⟩]
    rfl

/-! ### the conditions, in the program's order -/
def nsign (n j : Nat) : Constraint := ⟨(List.range n).map fun k => if j = k then -1 else 0, 0⟩
theorem only_congr {n : Nat} {T U : List (List Int)} {x : List Rat} (h : ∀ z : Nat → Rat, (∀ e ∈ T, iv (n + 1) e z = 0) ↔ ∀ e ∈ U, iv (n + 1) e z = 0) : Only n T x ↔ Only n U x := by
  unfold Only
  constructor <;> intro k z
  · rw [← h z, k z]
  · rw [h z, k z]
theorem signRow_getD {n j k : Nat} (hj : j < n) : (signRow n j).getD k 0 = if k = j then 1 else 0 := by
  unfold signRow
  rw [List.getD_eq_getElem?_getD, List.getElem?_set]
  by_cases h : j = k
  · subst h
    simp [show j < n + 1 by omega]
  · rw [if_neg h, if_neg (fun e => h e.symm), List.getElem?_replicate]
    split <;> rfl
theorem nsign_iv {n j : Nat} (hj : j < n) (z : Nat → Rat) : iv (n + 1) (rowOf (nsign n j)) z = - iv (n + 1) (signRow n j) z := by
  have e : ∀ k, k < n + 1 → (rowOf (nsign n j)).getD k 0 = - (signRow n j).getD k 0 := by
    intro k hk
    rw [signRow_getD hj]
    unfold rowOf nsign
    rw [List.getD_eq_getElem?_getD]
    by_cases q : k < n
    · rw [List.getElem?_append_left (by simpa using q), List.getElem?_map, List.getElem?_range q]
      show (if j = k then -1 else 0 : Int) = _
      by_cases r : j = k
      · rw [if_pos r, if_pos r.symm]
      · rw [if_neg r, if_neg (fun e => r e.symm)]
        rfl
    · have : k = n := by omega
      subst this
      rw [List.getElem?_append_right (by simp), if_neg (by omega)]
      simp
  unfold iv
  have : - sm (n + 1) (fun j_1 => (((signRow n j).getD j_1 0 : Int) : Rat) * z j_1) = (-1) * sm (n + 1) (fun j_1 => (((signRow n j).getD j_1 0 : Int) : Rat) * z j_1) := by grind
  rw [this, ← sm_mul]
  exact sm_congr fun k hk => by
    rw [e k hk, Rat.intCast_neg]
    grind
theorem nsigns_ker {n : Nat} {L : List Nat} (h : ∀ j ∈ L, j < n) (z : Nat → Rat) : (∀ e ∈ (L.map (nsign n)).map rowOf, iv (n + 1) e z = 0) ↔ ∀ e ∈ L.map (signRow n), iv (n + 1) e z = 0 := by
  constructor
  · intro k e he
    obtain ⟨j, hj, rfl⟩ := List.mem_map.mp he
    have := k _ (List.mem_map_of_mem (List.mem_map_of_mem hj))
    rw [nsign_iv (h j hj)] at this
    grind
  · intro k e he
    obtain ⟨c, hc, rfl⟩ := List.mem_map.mp he
    obtain ⟨j, hj, rfl⟩ := List.mem_map.mp hc
    rw [nsign_iv (h j hj), k _ (List.mem_map_of_mem hj)]
    rfl
theorem ker_append {n : Nat} {A B : List (List Int)} {z : Nat → Rat} : (∀ e ∈ A ++ B, iv n e z = 0) ↔ (∀ e ∈ A, iv n e z = 0) ∧ ∀ e ∈ B, iv n e z = 0 := by
  constructor
  · intro h
    exact ⟨fun e he => h e (List.mem_append_left _ he), fun e he => h e (List.mem_append_right _ he)⟩
  · rintro ⟨a, b⟩ e he
    rcases List.mem_append.mp he with h | h
    · exact a e h
    · exact b e h
theorem all_eq (P : Lrx6.Program) : Lrx6.allConstraints P = P.constraints ++ (List.range P.variables).map (nsign P.variables) := rfl

theorem sign_length (n : Nat) : ∀ e ∈ signRows n, e.length = n + 1 := by
  intro e he
  obtain ⟨j, _, rfl⟩ := List.mem_map.mp he
  simp [signRow]

/-- the corners, as numbers, are the points that are found -/
theorem corners_iff {P : Lrx6.Program} (wf : WF P) (p : List Int) : p ∈ cornersM (mpOf P) ↔ Canon p ∧ p.length = P.variables + 1 ∧ (toQ p).map fr ∈ Lrx6.corners P := by
  have hr : ∀ e ∈ signRows P.variables ++ (mpOf P).rows, e.length = P.variables + 1 := by
    intro e he
    rcases List.mem_append.mp he with h | h
    · exact sign_length _ e h
    · obtain ⟨c, hc, rfl⟩ := List.mem_map.mp h
      simp [rowOf, wf c hc]
  have f := search_finds (n := P.variables) (k := P.variables) (keep := keepM (mpOf P).rows) (rep_empty (P.variables + 1)) (fun e h => absurd h List.not_mem_nil) hr (by simp) p
  have f' : p ∈ cornersM (mpOf P) ↔ _ := f
  rw [f', spec_corners wf]
  constructor
  · rintro ⟨k, c, l, T, h1, h2, o⟩
    refine ⟨c, l, toQ p, rfl, (keep_iff wf c.1 l).mp k, ?_⟩
    obtain ⟨A, B, rfl, hA, hB⟩ := List.sublist_append_iff.mp h1
    obtain ⟨L, hL, rfl⟩ := List.sublist_map_iff.mp hA
    obtain ⟨C, hC, rfl⟩ := List.sublist_map_iff.mp hB
    refine ⟨C ++ L.map (nsign P.variables), ?_, by simp at h2 ⊢; omega, ?_⟩
    · rw [all_eq]
      exact hC.append (hL.map _)
    · refine (only_congr fun z => ?_).mp o
      rw [List.append_nil, ker_append, List.map_append, ker_append, nsigns_ker (fun j hj => List.mem_range.mp (hL.subset hj))]
      exact And.comm
  · rintro ⟨c, l, q, e, fe, T, h1, h2, o⟩
    have e : toQ p = q := by
      have := congrArg (List.map fun (x : Fraction) => (x.num : Rat) / ((x.den : Nat) : Rat)) e
      rw [List.map_map, List.map_map] at this
      have i : ((fun (x : Fraction) => (x.num : Rat) / ((x.den : Nat) : Rat)) ∘ fr) = id := by
        funext q
        exact (rat_eq q).symm
      rw [i, List.map_id, List.map_id] at this
      exact this
    subst e
    refine ⟨(keep_iff wf c.1 l).mpr fe, c, l, ?_⟩
    rw [all_eq] at h1
    obtain ⟨C, D, rfl, hC, hD⟩ := List.sublist_append_iff.mp h1
    obtain ⟨L, hL, rfl⟩ := List.sublist_map_iff.mp hD
    refine ⟨L.map (signRow P.variables) ++ C.map rowOf, (hL.map _).append (hC.map _), by simp at h2 ⊢; omega, ?_⟩
    refine (only_congr fun z => ?_).mp o
    rw [List.append_nil, ker_append, List.map_append, ker_append, nsigns_ker (fun j hj => List.mem_range.mp (hL.subset hj))]
    exact And.comm

end CB

/- CbRays -/
/-! Rays. -/
namespace CB
open Lrx1 (Fraction)
open Lrx6 (Constraint)

/-- the constraints that make directions of the sum 1 -/
def hom (c : Constraint) : Constraint := ⟨c.coefficients, 0⟩
def o1 (n : Nat) : Constraint := ⟨(List.range n).map fun _ => (1 : Int), 1⟩
def o2 (n : Nat) : Constraint := ⟨((List.range n).map fun _ => (1 : Int)).map fun v => -v, -1⟩
def coneP (P : Lrx6.Program) : Lrx6.Program := ⟨P.variables, P.constraints.map hom ++ [o1 P.variables, o2 P.variables], P.objective⟩
def homP (P : Lrx6.Program) : Lrx6.Program := ⟨P.variables, P.constraints.map hom, P.objective⟩
theorem rays_eq (P : Lrx6.Program) : Lrx6.rays P = Lrx6.corners (coneP P) := rfl

theorem cone_wf {P : Lrx6.Program} (wf : WF P) : WF (coneP P) := by
  intro c hc
  rcases List.mem_append.mp (show c ∈ P.constraints.map hom ++ [o1 P.variables, o2 P.variables] from hc) with h | h
  · obtain ⟨d, hd, rfl⟩ := List.mem_map.mp h
    exact wf d hd
  · rcases List.mem_cons.mp h with rfl | h
    · simp [o1, coneP]
    · rw [List.mem_singleton] at h
      subst h
      simp [o2, coneP]
theorem hom_wf {P : Lrx6.Program} (wf : WF P) : WF (homP P) := by
  intro c hc
  obtain ⟨d, hd, rfl⟩ := List.mem_map.mp (show c ∈ P.constraints.map hom from hc)
  exact wf d hd
theorem rowOf_hom (c : Constraint) : (rowOf c).dropLast ++ [0] = rowOf (hom c) := by
  simp [rowOf, hom]
theorem cone_rows (P : Lrx6.Program) : (coneM (mpOf P)).rows = (mpOf (homP P)).rows := by
  show (P.constraints.map rowOf).map (fun r => r.dropLast ++ [0]) = (P.constraints.map hom).map rowOf
  rw [List.map_map, List.map_map]
  exact List.map_congr_left fun c _ => rowOf_hom c

theorem one_row (n : Nat) : rowOf (o1 n) = oneRow n := by
  unfold rowOf o1 oneRow
  have : (List.range n).map (fun _ => (1 : Int)) = List.replicate n 1 := by
    rw [List.map_const']
    simp
  rw [this]
theorem one_length (n : Nat) : (oneRow n).length = n + 1 := by simp [oneRow]
theorem two_iv (n : Nat) (z : Nat → Rat) : iv (n + 1) (rowOf (o2 n)) z = - iv (n + 1) (oneRow n) z := by
  have e : ∀ k, k < n + 1 → (rowOf (o2 n)).getD k 0 = - (oneRow n).getD k 0 := by
    intro k hk
    rw [← one_row]
    unfold rowOf o2 o1
    simp only [List.getD_eq_getElem?_getD]
    by_cases q : k < n
    · rw [List.getElem?_append_left (by simpa using q), List.getElem?_append_left (by simpa using q)]
      simp [List.getElem?_range q]
    · have : k = n := by omega
      subst this
      rw [List.getElem?_append_right (by simp), List.getElem?_append_right (by simp)]
      simp
  unfold iv
  have : - sm (n + 1) (fun j => (((oneRow n).getD j 0 : Int) : Rat) * z j) = (-1) * sm (n + 1) (fun j => (((oneRow n).getD j 0 : Int) : Rat) * z j) := by grind
  rw [this, ← sm_mul]
  exact sm_congr fun k hk => by
    rw [e k hk, Rat.intCast_neg]
    grind

/-- the value of a row of a constraint at a vector and 1 -/
theorem iv_at {n : Nat} {c : Constraint} (h : c.coefficients.length = n) {q : List Rat} (hq : q.length = n) {z : Nat → Rat} (zn : z n = 1) (zi : ∀ i, i < n → z i = q.getD i 0) :
    iv (n + 1) (rowOf c) z = vd c.coefficients q - (c.bound : Rat) := by
  show sm n _ + _ = _
  have a : ∀ j, j < n → (((rowOf c).getD j 0 : Int) : Rat) * z j = ((c.coefficients.getD j 0 : Int) : Rat) * q.getD j 0 := fun j hj => by
    unfold rowOf
    rw [zi j hj]
    simp only [List.getD_eq_getElem?_getD]
    rw [List.getElem?_append_left (by omega)]
  have e2 : (rowOf c).getD n 0 = -c.bound := by
    unfold rowOf
    rw [List.getD_eq_getElem?_getD, List.getElem?_append_right (by omega), h]
    simp
  show _ + (((rowOf c).getD n 0 : Int) : Rat) * z n = _
  have e3 : sm n (fun j => ((c.coefficients.getD j 0 : Int) : Rat) * q.getD j 0) = vd c.coefficients q := by
    rw [← hq, ← sm_range, sum_range_vd]
  rw [sm_congr a, zn, e3, e2, Rat.intCast_neg]
  grind

theorem first_ones : ∀ n : Nat, firstFilled (List.replicate (n + 1) (1 : Int)) = some 0 := by
  intro n
  unfold firstFilled
  rw [List.replicate_succ, List.findIdx?_cons]
  rfl
theorem empty_reduced (e : List Int) : MS.empty.reduced e = e := by
  show e.map (fun a => (1 : Int) * a) = e
  simp
theorem one_wider_zero : MS.empty.wider (oneRow 0) = none := by decide
theorem one_wider_succ (n : Nat) : ∃ S, MS.empty.wider (oneRow (n + 1)) = some S := by
  unfold MS.wider
  rw [empty_reduced]
  have : (oneRow (n + 1)).dropLast = List.replicate (n + 1) 1 := by
    unfold oneRow
    rw [List.dropLast_concat]
  rw [this, first_ones]
  exact ⟨_, rfl⟩

theorem feas_cone (P : Lrx6.Program) (q : List Rat) : feasQ (coneP P) q ↔ feasQ (homP P) q ∧ vd (o1 P.variables).coefficients q = 1 := by
  have v2 : vd (o2 P.variables).coefficients q = - vd (o1 P.variables).coefficients q := by
    show vd (((List.range P.variables).map fun _ => (1 : Int)).map fun v => -v) q = _
    have : ∀ (a : List Int) (q : List Rat), vd (a.map fun v => -v) q = - vd a q := by
      intro a
      induction a with
      | nil => intro q; simp
      | cons x a ih =>
        intro q
        cases q with
        | nil => simp
        | cons y q =>
          rw [List.map_cons, vd_cons, vd_cons, ih, Rat.intCast_neg]
          grind
    exact this _ q
  constructor
  · rintro ⟨a, b, c⟩
    refine ⟨⟨a, b, fun k hk => c k (List.mem_append_left _ hk)⟩, ?_⟩
    have c1 := c (o1 P.variables) (List.mem_append_right _ (List.mem_cons_self ..))
    have c2 := c (o2 P.variables) (List.mem_append_right _ (List.mem_cons_of_mem _ (List.mem_singleton.mpr rfl)))
    rw [v2] at c2
    have d1 : ((o1 P.variables).bound : Rat) = 1 := rfl
    have d2 : ((o2 P.variables).bound : Rat) = -1 := rfl
    rw [d1] at c1
    rw [d2] at c2
    have : 1 ≤ vd (o1 P.variables).coefficients q := Rat.neg_le_neg_iff.mp c2
    exact Rat.le_antisymm c1 this
  · rintro ⟨⟨a, b, c⟩, e⟩
    refine ⟨a, b, fun k hk => ?_⟩
    rcases List.mem_append.mp (show k ∈ P.constraints.map hom ++ [o1 P.variables, o2 P.variables] from hk) with h | h
    · exact c k h
    · rcases List.mem_cons.mp h with rfl | h
      · rw [e]
        exact Rat.le_refl
      · rw [List.mem_singleton] at h
        subst h
        rw [v2, e]
        exact Rat.le_refl
theorem hom_row_last {n : Nat} {c : Constraint} (h : c.coefficients.length = n) : (rowOf (hom c)).getD n 0 = 0 := by
  show (c.coefficients ++ [-0]).getD n 0 = 0
  rw [List.getD_eq_getElem?_getD, List.getElem?_append_right (by omega), h]
  simp
theorem last_only {n : Nat} {e : List Int} (h : e.getD n 0 = 0) {z : Nat → Rat} (hz : ∀ i, i < n → z i = 0) : iv (n + 1) e z = 0 := by
  show sm n _ + _ = 0
  rw [sm_zero fun j hj => by rw [hz j hj]; grind]
  show 0 + ((e.getD n 0 : Int) : Rat) * z n = 0
  rw [h]
  grind

/-- the rays, as numbers, are the points that are found -/
theorem rays_iff {P : Lrx6.Program} (wf : WF P) (p : List Int) : p ∈ raysM (mpOf P) ↔ Canon p ∧ p.length = P.variables + 1 ∧ (toQ p).map fr ∈ Lrx6.rays P := by
  rw [rays_eq, spec_corners (cone_wf wf)]
  show p ∈ raysM (mpOf P) ↔ Canon p ∧ p.length = P.variables + 1 ∧ ∃ q : List Rat, (toQ p).map fr = q.map fr ∧ feasQ (coneP P) q ∧ ∃ T : List Constraint, T.Sublist (Lrx6.allConstraints (coneP P)) ∧ T.length = P.variables ∧ Only P.variables (T.map rowOf) q
  have inj : ∀ q : List Rat, (toQ p).map fr = q.map fr → toQ p = q := by
    intro q e
    have := congrArg (List.map fun (x : Fraction) => (x.num : Rat) / ((x.den : Nat) : Rat)) e
    rw [List.map_map, List.map_map] at this
    have i : ((fun (x : Fraction) => (x.num : Rat) / ((x.den : Nat) : Rat)) ∘ fr) = id := by
      funext q
      exact (rat_eq q).symm
    rw [i, List.map_id, List.map_id] at this
    exact this
  have all : Lrx6.allConstraints (coneP P) = (P.constraints.map hom ++ [o1 P.variables, o2 P.variables]) ++ (List.range P.variables).map (nsign P.variables) := rfl
  have wf' := cone_wf wf
  generalize hn : P.variables = n at *
  cases n with
  | zero =>
    -- no variables: the sum is 0
    unfold raysM
    have : (mpOf P).width = 0 := hn
    rw [this, one_wider_zero]
    constructor
    · intro h
      exact absurd h List.not_mem_nil
    · rintro ⟨_, l, q, e, f, _⟩
      have := ((feas_cone P q).mp f).2
      have q0 : q = [] := List.length_eq_zero_iff.mp (by rw [f.1]; exact hn)
      rw [q0, vd_nil'] at this
      exact absurd this (by decide)
  | succ m =>
    obtain ⟨S, hS⟩ := one_wider_succ m
    have R : Rep (m + 1 + 1) [oneRow (m + 1)] S := (rep_empty _).wider (one_length _) hS
    have hr : ∀ e ∈ signRows (m + 1) ++ (mpOf (homP P)).rows, e.length = m + 1 + 1 := by
      intro e he
      rcases List.mem_append.mp he with h | h
      · exact sign_length _ e h
      · obtain ⟨c, hc, rfl⟩ := List.mem_map.mp h
        have := hom_wf wf c hc
        simp [rowOf, this, homP, hn]
    have f := search_finds (n := m + 1) (k := m) (keep := keepM (mpOf (homP P)).rows) R (fun e h => by rw [List.mem_singleton] at h; subst h; exact one_length _) hr (by simp) p
    have f' : p ∈ raysM (mpOf P) ↔ (keepM (mpOf (homP P)).rows p = true ∧ Canon p ∧ p.length = m + 1 + 1 ∧
          ∃ T, List.Sublist T (signRows (m + 1) ++ (mpOf (homP P)).rows) ∧ T.length = m ∧ Only (m + 1) (T ++ [oneRow (m + 1)]) (toQ p)) := by
      unfold raysM
      have : (mpOf P).width = m + 1 := hn
      rw [this, hS, cone_rows]
      exact f
    rw [f']
    have wo : (o1 (m + 1)).coefficients.length = m + 1 := by simp [o1]
    constructor
    · rintro ⟨k, c, l, T, h1, h2, o⟩
      have fe := (keep_iff (hom_wf wf) c.1 (by rw [l]; simp [homP, hn])).mp k
      have lq : (toQ p).length = m + 1 := by rw [toQ_length, l]; rfl
      obtain ⟨z, zn, zi⟩ := ones_z (n := m + 1) (q := toQ p)
      have kz := (o z).mpr fun i hi => by rw [zi i hi, zn]; grind
      have k1 := kz (oneRow (m + 1)) (List.mem_append_right _ (List.mem_singleton.mpr rfl))
      rw [← one_row, iv_at wo lq zn zi] at k1
      have s1 : vd (o1 (m + 1)).coefficients (toQ p) = 1 := by
        have : ((o1 (m + 1)).bound : Rat) = 1 := rfl
        rw [this] at k1
        grind
      refine ⟨c, l, toQ p, rfl, (feas_cone P _).mpr ⟨fe, by rw [hn]; exact s1⟩, ?_⟩
      obtain ⟨A, B, rfl, hA, hB⟩ := List.sublist_append_iff.mp h1
      obtain ⟨L, hL, rfl⟩ := List.sublist_map_iff.mp hA
      obtain ⟨C, hC, rfl⟩ := List.sublist_map_iff.mp hB
      refine ⟨(C ++ [o1 (m + 1)]) ++ L.map (nsign (m + 1)), ?_, by simp at h2 ⊢; omega, ?_⟩
      · rw [all]
        refine (List.Sublist.append hC ?_).append (hL.map _)
        exact List.Sublist.cons_cons _ (List.nil_sublist _)
      · refine (only_congr fun z => ?_).mp o
        rw [ker_append, ker_append, List.map_append, ker_append, List.map_append, ker_append, nsigns_ker (fun j hj => List.mem_range.mp (hL.subset hj))]
        rw [← one_row]
        constructor
        · rintro ⟨⟨a, b⟩, c⟩
          exact ⟨⟨b, c⟩, a⟩
        · rintro ⟨⟨b, c⟩, a⟩
          exact ⟨⟨a, b⟩, c⟩
    · rintro ⟨c, l, q, e, fe, T, h1, h2, o⟩
      have e := inj q e
      subst e
      obtain ⟨fh, s1⟩ := (feas_cone P _).mp fe
      rw [hn] at s1
      have lq : (toQ p).length = m + 1 := by rw [toQ_length, l]; rfl
      refine ⟨(keep_iff (hom_wf wf) c.1 (by rw [l]; simp [homP, hn])).mpr fh, c, l, ?_⟩
      have hT : ∀ k ∈ T, k.coefficients.length = m + 1 := fun k hk => by
        have := all_wf wf' k (h1.subset hk)
        rw [this]
        exact hn
      rw [all] at h1
      obtain ⟨CD, N, rfl, hCD, hN⟩ := List.sublist_append_iff.mp h1
      obtain ⟨C, D, rfl, hC, hD⟩ := List.sublist_append_iff.mp hCD
      obtain ⟨L, hL, rfl⟩ := List.sublist_map_iff.mp hN
      have done : (∀ z : Nat → Rat, (∀ e ∈ D.map rowOf, iv (m + 1 + 1) e z = 0) ↔ iv (m + 1 + 1) (oneRow (m + 1)) z = 0) → D.length = 1 →
          ∃ T, T.Sublist (signRows (m + 1) ++ (mpOf (homP P)).rows) ∧ T.length = m ∧ Only (m + 1) (T ++ [oneRow (m + 1)]) (toQ p) := by
        intro hk hl
        refine ⟨L.map (signRow (m + 1)) ++ C.map rowOf, (hL.map _).append (hC.map _), by simp at h2 ⊢; omega, ?_⟩
        refine (only_congr fun z => ?_).mp o
        rw [ker_append, ker_append, List.map_append, ker_append, List.map_append, ker_append, nsigns_ker (fun j hj => List.mem_range.mp (hL.subset hj)), hk z]
        have : (∀ e ∈ [oneRow (m + 1)], iv (m + 1 + 1) e z = 0) ↔ iv (m + 1 + 1) (oneRow (m + 1)) z = 0 := by simp
        rw [this]
        constructor
        · rintro ⟨⟨a, b⟩, c⟩
          exact ⟨⟨c, a⟩, b⟩
        · rintro ⟨⟨a, b⟩, c⟩
          exact ⟨⟨b, c⟩, a⟩
      have single1 : (∀ z : Nat → Rat, (∀ e ∈ [o1 (m + 1)].map rowOf, iv (m + 1 + 1) e z = 0) ↔ iv (m + 1 + 1) (oneRow (m + 1)) z = 0) := by
        intro z
        simp [one_row]
      have single2 : (∀ z : Nat → Rat, (∀ e ∈ [o2 (m + 1)].map rowOf, iv (m + 1 + 1) e z = 0) ↔ iv (m + 1 + 1) (oneRow (m + 1)) z = 0) := by
        intro z
        simp only [List.map_cons, List.map_nil, List.mem_singleton, forall_eq, two_iv]
        constructor <;> intro h <;> grind
      cases hD with
      | cons _ hD =>
        cases hD with
        | cons _ hD =>
          -- all rows are of directions: the one solution would be 0
          exfalso
          have d0 := List.sublist_nil.mp hD
          subst d0
          have zero : ∀ z : Nat → Rat, (∀ i, i < m + 1 → z i = 0) → ∀ e ∈ (C ++ [] ++ L.map (nsign (m + 1))).map rowOf, iv (m + 1 + 1) e z = 0 := by
            intro z hz e he
            obtain ⟨k, hk, rfl⟩ := List.mem_map.mp he
            rw [List.append_nil] at hk
            rcases List.mem_append.mp hk with h | h
            · obtain ⟨k', hk', rfl⟩ := List.mem_map.mp (hC.subset h)
              exact last_only (hom_row_last ((wf k' hk').trans hn)) hz
            · obtain ⟨j, hj, rfl⟩ := List.mem_map.mp h
              refine last_only ?_ hz
              unfold rowOf nsign
              rw [List.getD_eq_getElem?_getD, List.getElem?_append_right (by simp)]
              simp
          have q0 : ∀ i, i < m + 1 → (toQ p).getD i 0 = 0 := by
            intro i hi
            have hz : ∀ i, i < m + 1 → (fun j => if j = m + 1 then (1 : Rat) else 0) i = 0 := fun i hi => if_neg (by omega)
            have := (o _).mp (zero (fun j => if j = m + 1 then 1 else 0) hz) i hi
            rw [if_neg (by omega), if_pos rfl] at this
            grind
          have : vd (o1 (m + 1)).coefficients (toQ p) = 0 := by
            rw [← sum_range_vd, sm_range]
            refine sm_zero fun j hj => ?_
            rw [q0 j (by omega)]
            grind
          rw [this] at s1
          exact absurd s1 (by decide)
        | cons_cons _ hD =>
          have d0 := List.sublist_nil.mp hD
          subst d0
          exact done single2 rfl
      | cons_cons _ hD =>
        cases hD with
        | cons _ hD =>
          have d0 := List.sublist_nil.mp hD
          subst d0
          exact done single1 rfl
        | cons_cons _ hD =>
          -- both forms of one equation: they hang on one another
          exfalso
          have d0 := List.sublist_nil.mp hD
          subst d0
          have lt : ((C ++ [o1 (m + 1), o2 (m + 1)] ++ L.map (nsign (m + 1))).map rowOf).length = m + 1 := by rw [List.length_map]; exact h2
          have lr : ∀ e ∈ (C ++ [o1 (m + 1), o2 (m + 1)] ++ L.map (nsign (m + 1))).map rowOf, e.length = m + 1 + 1 := by
            intro e he
            obtain ⟨k, hk, rfl⟩ := List.mem_map.mp he
            simp [rowOf, hT k hk]
          obtain ⟨z, z0, z1, z2⟩ := only_free lt lr o C.length (by simp at h2; omega)
          have g1 : ((C ++ [o1 (m + 1), o2 (m + 1)] ++ L.map (nsign (m + 1))).map rowOf).getD C.length [] = oneRow (m + 1) := by
            rw [List.getD_eq_getElem?_getD, List.getElem?_map, List.append_assoc, List.getElem?_append_right (by omega)]
            simp [one_row]
          have g2 : ((C ++ [o1 (m + 1), o2 (m + 1)] ++ L.map (nsign (m + 1))).map rowOf).getD (C.length + 1) [] = rowOf (o2 (m + 1)) := by
            rw [List.getD_eq_getElem?_getD, List.getElem?_map, List.append_assoc, List.getElem?_append_right (by omega)]
            simp
          have := z2 (C.length + 1) (by simp at h2; omega) (by omega)
          rw [g2, two_iv] at this
          rw [g1] at z1
          rw [z1] at this
          exact absurd this (by decide)

end CB

/- CbBest -/
/-! The first one of the best, counts, fractions told. -/
namespace CB
open Lrx1 (Fraction)

def lowest (n d : Int) : List Int := [n.fdiv (Int.gcd n d : Int), d.fdiv (Int.gcd n d : Int)]
def valueOf (goal p : List Int) : List Int := lowest (idot goal p.dropLast) (p.getLastD 0)
def fractionsOf (p : List Int) : List Int := p.dropLast.flatMap fun a => lowest a (p.getLastD 0)
def exceeds (p q goal : List Int) : Bool := decide (idot goal p.dropLast * q.getLastD 0 > idot goal q.dropLast * p.getLastD 0)
/-- smaller where the two differ first; the last numbers are in hand -/
def before (dp dq : Int) : List Int → List Int → Bool
  | a :: p, b :: q => if a * dq ≠ b * dp then decide (a * dq < b * dp) else before dp dq p q
  | _, _ => false
def comesBefore (p q : List Int) : Bool := before (p.getLastD 0) (q.getLastD 0) p.dropLast q.dropLast
def firstFrom (first : List Int) (ps : List (List Int)) : List Int := ps.foldl (fun f p => if comesBefore p f then p else f) first
def firstOf (ps : List (List Int)) : List Int := firstFrom (ps.getD 0 []) ps
def topOf (goal : List Int) (ps : List (List Int)) : List Int := ps.foldl (fun t p => if exceeds p t goal then p else t) (ps.getD 0 [])
def bestOf (ps : List (List Int)) (goal : List Int) : List Int := firstOf (ps.filter fun p => !exceeds (topOf goal ps) p goal)

theorem ints_lowest (n d : Int) (hd : 0 < d) : lowest n d = Lrx1.ints (fr ((n : Rat) / (d : Rat))) := by
  have e : (d : Rat) = ((d.toNat : Nat) : Rat) := by
    rw [← Rat.intCast_natCast]
    congr 1
    omega
  rw [e, ← reduce_fr]
  unfold lowest Lrx1.reduce Lrx1.ints
  have hd' : d.toNat ≠ 0 := by omega
  rw [if_neg hd']
  have g : (Int.gcd n d : Int) = ((Nat.gcd n.natAbs d.toNat : Nat) : Int) := by
    unfold Int.gcd
    congr 2
    omega
  rw [g, Int.fdiv_eq_ediv_of_nonneg _ (Int.natCast_nonneg _), Int.fdiv_eq_ediv_of_nonneg _ (Int.natCast_nonneg _)]
  have : d / ((Nat.gcd n.natAbs d.toNat : Nat) : Int) = ((d.toNat / Nat.gcd n.natAbs d.toNat : Nat) : Int) := by
    rw [Int.natCast_ediv]
    congr 1
    omega
  rw [this]
theorem value_told {p : List Int} (hp : 0 < p.getLastD 0) (goal : List Int) : valueOf goal p = Lrx1.ints (fr (vd goal (toQ p))) := by
  unfold valueOf
  rw [ints_lowest _ _ hp]
  congr 2
  rw [← vd_toQ hp]
  have : ((p.getLastD 0 : Int) : Rat) ≠ 0 := by
    have : p.getLastD 0 ≠ 0 := by omega
    exact_mod_cast this
  grind
theorem flatMap_congr_ {α β : Type} {f g : α → List β} {l : List α} (h : ∀ a ∈ l, f a = g a) : l.flatMap f = l.flatMap g := by
  induction l with
  | nil => rfl
  | cons a l ih =>
    rw [List.flatMap_cons, List.flatMap_cons, h a (List.mem_cons_self ..), ih fun b hb => h b (List.mem_cons_of_mem _ hb)]
theorem fractions_told {p : List Int} (hp : 0 < p.getLastD 0) : fractionsOf p = ((toQ p).map fr).flatMap Lrx1.ints := by
  unfold fractionsOf toQ
  rw [List.map_map, List.flatMap_map]
  exact flatMap_congr_ fun a _ => ints_lowest a _ hp

/-! ### order -/
def lexlt : List Rat → List Rat → Bool
  | a :: x, b :: y => decide (a < b) || (decide (a = b) && lexlt x y)
  | _, _ => false
theorem before_fr : ∀ x y : List Rat, Lrx6.isBefore (x.map fr) (y.map fr) = lexlt x y
  | [], _ => by unfold Lrx6.isBefore; cases ‹List Rat› <;> rfl
  | _ :: _, [] => rfl
  | a :: x, b :: y => by
    show (Lrx1.lt (fr a) (fr b) || (fr a == fr b && Lrx6.isBefore (x.map fr) (y.map fr))) = _
    rw [lt_fr, beq_fr, before_fr x y]
    rfl
theorem lex_irrefl : ∀ x : List Rat, lexlt x x = false
  | [] => rfl
  | a :: x => by
    show (decide (a < a) || (decide (a = a) && lexlt x x)) = false
    rw [lex_irrefl x]
    simp [Rat.lt_irrefl]
theorem lex_trans : ∀ {x y z : List Rat}, lexlt x y = true → lexlt y z = true → lexlt x z = true
  | a :: x, b :: y, c :: z, h1, h2 => by
    simp only [lexlt, Bool.or_eq_true, Bool.and_eq_true, decide_eq_true_eq] at *
    rcases h1 with h1 | ⟨h1, k1⟩
    · rcases h2 with h2 | ⟨h2, k2⟩
      · left; grind
      · left; grind
    · rcases h2 with h2 | ⟨h2, k2⟩
      · left; grind
      · right; exact ⟨h1.trans h2, lex_trans k1 k2⟩
theorem lex_total : ∀ {x y : List Rat}, x.length = y.length → lexlt x y = false → lexlt y x = false → x = y
  | [], [], _, _, _ => rfl
  | a :: x, b :: y, h, h1, h2 => by
    simp only [lexlt, Bool.or_eq_false_iff, Bool.and_eq_false_iff, decide_eq_false_iff_not] at *
    have e : a = b := by grind
    subst e
    have := lex_total (by simpa using h) (h1.2.resolve_left (fun q => q rfl)) (h2.2.resolve_left (fun q => q rfl))
    rw [this]

/-- x is preferred to y -/
def better (g : List Rat → Rat) (x y : List Rat) : Prop := g y < g x ∨ (g x = g y ∧ lexlt x y = true)
theorem better_trans {g : List Rat → Rat} {x y z : List Rat} (h1 : better g x y) (h2 : better g y z) : better g x z := by
  rcases h1 with h1 | ⟨h1, k1⟩
  · rcases h2 with h2 | ⟨h2, k2⟩
    · left; grind
    · left; grind
  · rcases h2 with h2 | ⟨h2, k2⟩
    · left; grind
    · right; exact ⟨h1.trans h2, lex_trans k1 k2⟩
theorem better_irrefl {g : List Rat → Rat} {x : List Rat} : ¬ better g x x := by
  rintro (h | ⟨_, h⟩)
  · exact Rat.lt_irrefl h
  · rw [lex_irrefl] at h
    cases h
theorem better_total {g : List Rat → Rat} {x y : List Rat} (l : x.length = y.length) (h1 : ¬ better g x y) (h2 : ¬ better g y x) : x = y := by
  have a : ¬ g y < g x := fun h => h1 (.inl h)
  have b : ¬ g x < g y := fun h => h2 (.inl h)
  have e : g x = g y := by grind
  refine lex_total l ?_ ?_
  · cases q : lexlt x y with
    | false => rfl
    | true => exact absurd (.inr ⟨e, q⟩) h1
  · cases q : lexlt y x with
    | false => rfl
    | true => exact absurd (.inr ⟨e.symm, q⟩) h2

/-- y is in, and nothing that is in is preferred to it -/
def IsBest (g : List Rat → Rat) (I : List Rat → Prop) (y : List Rat) : Prop := I y ∧ ∀ x, I x → ¬ better g x y
theorem best_unique {g : List Rat → Rat} {I : List Rat → Prop} {n : Nat} (hl : ∀ x, I x → x.length = n) {x y : List Rat} (a : IsBest g I x) (b : IsBest g I y) : x = y :=
  better_total ((hl x a.1).trans (hl y b.1).symm) (b.2 x a.1) (a.2 y b.1)

def bestStep (f : List Fraction → Fraction) (found : Option (List Fraction)) (x : List Fraction) : Option (List Fraction) := match found with
  | none => some x
  | some y => if Lrx1.lt (f y) (f x) || (f x == f y && Lrx6.isBefore x y) then some x else found
theorem best_eq (f : List Fraction → Fraction) (l : List (List Fraction)) : Lrx6.best f l = l.foldl (bestStep f) none := rfl
theorem best_step {g : List Rat → Rat} {f : List Fraction → Fraction} (hf : ∀ q : List Rat, f (q.map fr) = fr (g q)) (x y : List Rat) :
    (Lrx1.lt (f (y.map fr)) (f (x.map fr)) || (f (x.map fr) == f (y.map fr) && Lrx6.isBefore (x.map fr) (y.map fr))) = true ↔ better g x y := by
  rw [hf, hf, lt_fr, beq_fr, before_fr]
  unfold better
  simp
theorem best_fold {g : List Rat → Rat} {f : List Fraction → Fraction} (hf : ∀ q : List Rat, f (q.map fr) = fr (g q)) {n : Nat} : ∀ (L : List (List Rat)) (y : List Rat), (∀ x ∈ L, x.length = n) → y.length = n →
    ∃ r, (L.map fun q => q.map fr).foldl (bestStep f) (some (y.map fr)) = some (r.map fr) ∧ (r = y ∨ r ∈ L) ∧ (¬ better g y r) ∧ ∀ x ∈ L, ¬ better g x r
  | [], y, _, _ => ⟨y, rfl, .inl rfl, better_irrefl, fun x h => absurd h List.not_mem_nil⟩
  | x :: L, y, hL, hy => by
    rw [List.map_cons, List.foldl_cons]
    have hx : x.length = n := hL x (List.mem_cons_self ..)
    have hL' : ∀ x ∈ L, x.length = n := fun z hz => hL z (List.mem_cons_of_mem _ hz)
    by_cases h : better g x y
    · have e : bestStep f (some (y.map fr)) (x.map fr) = some (x.map fr) := if_pos ((best_step hf x y).mpr h)
      obtain ⟨r, r1, r2, r3, r4⟩ := best_fold hf L x hL' hx
      refine ⟨r, by rw [e]; exact r1, ?_, ?_, ?_⟩
      · rcases r2 with rfl | r2
        · exact .inr (List.mem_cons_self ..)
        · exact .inr (List.mem_cons_of_mem _ r2)
      · intro q
        exact r3 (better_trans h q)
      · intro z hz
        rcases List.mem_cons.mp hz with rfl | hz
        · exact r3
        · exact r4 z hz
    · have e : bestStep f (some (y.map fr)) (x.map fr) = some (y.map fr) := if_neg (fun q => h ((best_step hf x y).mp q))
      obtain ⟨r, r1, r2, r3, r4⟩ := best_fold hf L y hL' hy
      have lr : r.length = n := by
        rcases r2 with rfl | r2
        · exact hy
        · exact hL' r r2
      refine ⟨r, by rw [e]; exact r1, ?_, r3, ?_⟩
      · rcases r2 with rfl | r2
        · exact .inl rfl
        · exact .inr (List.mem_cons_of_mem _ r2)
      · intro z hz
        rcases List.mem_cons.mp hz with rfl | hz
        · intro q
          by_cases c : better g r y
          · exact h (better_trans q c)
          · have := better_total (hy.trans lr.symm) r3 c
            subst this
            exact h q
        · exact r4 z hz
/-- what the specification's choice is -/
theorem best_spec {g : List Rat → Rat} {f : List Fraction → Fraction} (hf : ∀ q : List Rat, f (q.map fr) = fr (g q)) {n : Nat} {l : List (List Fraction)} (hl : ∀ v ∈ l, ∃ q : List Rat, v = q.map fr ∧ q.length = n) :
    (l = [] ∧ Lrx6.best f l = none) ∨ ∃ r, Lrx6.best f l = some (r.map fr) ∧ IsBest g (fun q => q.map fr ∈ l) r := by
  have fr_map : ∀ a b : List Rat, a.map fr = b.map fr → a = b := by
    intro a b e
    have := congrArg (List.map fun (x : Fraction) => (x.num : Rat) / ((x.den : Nat) : Rat)) e
    rw [List.map_map, List.map_map] at this
    have i : ((fun (x : Fraction) => (x.num : Rat) / ((x.den : Nat) : Rat)) ∘ fr) = id := by
      funext q
      exact (rat_eq q).symm
    rw [i, List.map_id, List.map_id] at this
    exact this
  have : ∃ L : List (List Rat), l = L.map (fun q => q.map fr) ∧ ∀ x ∈ L, x.length = n := by
    induction l with
    | nil => exact ⟨[], rfl, fun x h => absurd h List.not_mem_nil⟩
    | cons v l ih =>
      obtain ⟨q, rfl, hq⟩ := hl v (List.mem_cons_self ..)
      obtain ⟨L, rfl, hL⟩ := ih fun w hw => hl w (List.mem_cons_of_mem _ hw)
      exact ⟨q :: L, rfl, fun x hx => (List.mem_cons.mp hx).elim (fun e => e ▸ hq) (hL x)⟩
  obtain ⟨L, rfl, hL⟩ := this
  rw [best_eq]
  cases L with
  | nil => exact .inl ⟨rfl, rfl⟩
  | cons y L =>
    obtain ⟨r, r1, r2, r3, r4⟩ := best_fold hf L y (fun x hx => hL x (List.mem_cons_of_mem _ hx)) (hL y (List.mem_cons_self ..))
    refine .inr ⟨r, r1, ?_, fun x hx => ?_⟩
    · show r.map fr ∈ (y :: L).map _
      refine List.mem_map_of_mem (f := fun q : List Rat => q.map fr) ?_
      rcases r2 with rfl | r2
      · exact List.mem_cons_self ..
      · exact List.mem_cons_of_mem _ r2
    · obtain ⟨x', hx', e⟩ := List.mem_map.mp hx
      have := fr_map _ _ e
      subst this
      rcases List.mem_cons.mp hx' with rfl | h
      · exact r3
      · exact r4 _ h

/-! ### the program's choice -/
section
variable {p q goal : List Int}
theorem toQ_cons_lt {a b dp dq : Int} (hp : 0 < dp) (hq : 0 < dq) : (a * dq < b * dp ↔ (a : Rat) / (dp : Rat) < (b : Rat) / (dq : Rat)) ∧ (a * dq = b * dp ↔ (a : Rat) / (dp : Rat) = (b : Rat) / (dq : Rat)) := by
  have h1 : (0 : Rat) < (dp : Rat) := by exact_mod_cast hp
  have h2 : (0 : Rat) < (dq : Rat) := by exact_mod_cast hq
  constructor
  · rw [← Rat.intCast_lt_intCast, Rat.intCast_mul, Rat.intCast_mul, Rat.div_lt_iff h1]
    rw [show (b : Rat) / (dq : Rat) * (dp : Rat) = (b * dp) / (dq : Rat) by grind, Rat.lt_div_iff h2]
  · have : (a * dq = b * dp) ↔ ((a : Rat) * (dq : Rat) = (b : Rat) * (dp : Rat)) := by
      rw [← Rat.intCast_mul, ← Rat.intCast_mul, Rat.intCast_inj]
    rw [this]
    constructor <;> intro h <;> grind
theorem before_lex {dp dq : Int} (hp : 0 < dp) (hq : 0 < dq) : ∀ x y : List Int, before dp dq x y = lexlt (x.map fun (a : Int) => (a : Rat) / (dp : Rat)) (y.map fun (a : Int) => (a : Rat) / (dq : Rat))
  | [], _ => by unfold before; cases ‹List Int› <;> rfl
  | _ :: _, [] => rfl
  | a :: x, b :: y => by
    obtain ⟨k1, k2⟩ := toQ_cons_lt (a := a) (b := b) hp hq
    show (if a * dq ≠ b * dp then decide (a * dq < b * dp) else before dp dq x y) = (decide ((a : Rat) / (dp : Rat) < (b : Rat) / (dq : Rat)) || (decide ((a : Rat) / (dp : Rat) = (b : Rat) / (dq : Rat)) && lexlt _ _))
    have d1 : decide (a * dq < b * dp) = decide ((a : Rat) / (dp : Rat) < (b : Rat) / (dq : Rat)) := decide_eq_decide.mpr k1
    rw [before_lex hp hq x y, d1]
    by_cases e : a * dq = b * dp
    · have n : ¬ (a : Rat) / (dp : Rat) < (b : Rat) / (dq : Rat) := by
        intro h
        have := k2.mp e
        rw [this] at h
        exact Rat.lt_irrefl h
      rw [if_neg (fun h => h e), decide_eq_true (k2.mp e), decide_eq_false n]
      rfl
    · rw [if_pos e, decide_eq_false (fun h => e (k2.mpr h))]
      simp
theorem comes_lex (hp : 0 < p.getLastD 0) (hq : 0 < q.getLastD 0) : comesBefore p q = lexlt (toQ p) (toQ q) := before_lex hp hq _ _
theorem exceeds_val (hp : 0 < p.getLastD 0) (hq : 0 < q.getLastD 0) : exceeds p q goal = true ↔ vd goal (toQ q) < vd goal (toQ p) := by
  have h1 : (0 : Rat) < ((p.getLastD 0 : Int) : Rat) := by exact_mod_cast hp
  have h2 : (0 : Rat) < ((q.getLastD 0 : Int) : Rat) := by exact_mod_cast hq
  have e1 := vd_toQ hp goal
  have e2 := vd_toQ hq goal
  unfold exceeds
  rw [decide_eq_true_eq]
  show idot goal q.dropLast * p.getLastD 0 < idot goal p.dropLast * q.getLastD 0 ↔ _
  rw [← Rat.intCast_lt_intCast, Rat.intCast_mul, Rat.intCast_mul, ← e1, ← e2]
  constructor
  · intro h
    have : (vd goal (toQ q)) * (((p.getLastD 0 : Int) : Rat) * ((q.getLastD 0 : Int) : Rat)) < (vd goal (toQ p)) * (((p.getLastD 0 : Int) : Rat) * ((q.getLastD 0 : Int) : Rat)) := by grind
    exact (Rat.mul_lt_mul_right (Rat.mul_pos h1 h2)).mp this
  · intro h
    have := (Rat.mul_lt_mul_right (Rat.mul_pos h1 h2)).mpr h
    grind
end

/-- a fold that keeps what nothing that was seen is preferred to -/
theorem keep_fold {α : Type} (r : α → α → Bool) (trans : ∀ {a b c : α}, r a b = true → r b c = true → r a c = true) (irrefl : ∀ a, r a a = false)
    (neg : ∀ {a b c : α}, r a b = false → r b c = false → r a c = false) : ∀ (l : List α) (y : α),
    (l.foldl (fun f p => if r p f then p else f) y = y ∨ l.foldl (fun f p => if r p f then p else f) y ∈ l) ∧ r y (l.foldl (fun f p => if r p f then p else f) y) = false ∧ ∀ x ∈ l, r x (l.foldl (fun f p => if r p f then p else f) y) = false
  | [], y => ⟨.inl rfl, irrefl y, fun x h => absurd h List.not_mem_nil⟩
  | x :: l, y => by
    rw [List.foldl_cons]
    by_cases h : r x y = true
    · rw [if_pos h]
      obtain ⟨a, b, c⟩ := keep_fold r trans irrefl neg l x
      refine ⟨?_, ?_, fun z hz => ?_⟩
      · rcases a with a | a
        · rw [a]
          exact .inr (List.mem_cons_self ..)
        · exact .inr (List.mem_cons_of_mem _ a)
      · refine Bool.eq_false_iff.mpr fun q => ?_
        have := trans h q
        rw [b] at this
        cases this
      · rcases List.mem_cons.mp hz with rfl | hz
        · exact b
        · exact c z hz
    · rw [if_neg h]
      obtain ⟨a, b, c⟩ := keep_fold r trans irrefl neg l y
      refine ⟨?_, b, fun z hz => ?_⟩
      · rcases a with a | a
        · exact .inl a
        · exact .inr (List.mem_cons_of_mem _ a)
      · rcases List.mem_cons.mp hz with rfl | hz
        · exact neg (Bool.eq_false_iff.mpr h) b
        · exact c z hz
/-- .. of things that a property tells -/
theorem keep_fold_on {α : Type} (r : α → α → Bool) (I : α → Prop) (trans : ∀ {a b c : α}, I a → I b → I c → r a b = true → r b c = true → r a c = true) (irrefl : ∀ a, I a → r a a = false)
    (neg : ∀ {a b c : α}, I a → I b → I c → r a b = false → r b c = false → r a c = false) : ∀ (l : List α) (y : α), I y → (∀ x ∈ l, I x) →
    (l.foldl (fun f p => if r p f then p else f) y = y ∨ l.foldl (fun f p => if r p f then p else f) y ∈ l) ∧ r y (l.foldl (fun f p => if r p f then p else f) y) = false ∧ ∀ x ∈ l, r x (l.foldl (fun f p => if r p f then p else f) y) = false
  | [], y, iy, _ => ⟨.inl rfl, irrefl y iy, fun x h => absurd h List.not_mem_nil⟩
  | x :: l, y, iy, il => by
    have ix := il x (List.mem_cons_self ..)
    have il' : ∀ x ∈ l, I x := fun z hz => il z (List.mem_cons_of_mem _ hz)
    rw [List.foldl_cons]
    by_cases h : r x y = true
    · rw [if_pos h]
      obtain ⟨a, b, c⟩ := keep_fold_on r I trans irrefl neg l x ix il'
      have ir : I (l.foldl (fun f p => if r p f then p else f) x) := a.elim (fun e => by rw [e]; exact ix) (fun m => il' _ m)
      refine ⟨?_, ?_, fun z hz => ?_⟩
      · rcases a with a | a
        · rw [a]
          exact .inr (List.mem_cons_self ..)
        · exact .inr (List.mem_cons_of_mem _ a)
      · refine Bool.eq_false_iff.mpr fun q => ?_
        have := trans ix iy ir h q
        rw [b] at this
        cases this
      · rcases List.mem_cons.mp hz with rfl | hz
        · exact b
        · exact c z hz
    · rw [if_neg h]
      obtain ⟨a, b, c⟩ := keep_fold_on r I trans irrefl neg l y iy il'
      have ir : I (l.foldl (fun f p => if r p f then p else f) y) := a.elim (fun e => by rw [e]; exact iy) (fun m => il' _ m)
      refine ⟨?_, b, fun z hz => ?_⟩
      · rcases a with a | a
        · exact .inl a
        · exact .inr (List.mem_cons_of_mem _ a)
      · rcases List.mem_cons.mp hz with rfl | hz
        · exact neg ix iy ir (Bool.eq_false_iff.mpr h) b
        · exact c z hz

def Pt (n : Nat) (p : List Int) : Prop := 0 < p.getLastD 0 ∧ p.length = n + 1
theorem getD_zero_mem {α : Type} {l : List α} {d : α} (h : l ≠ []) : l.getD 0 d ∈ l := by
  cases l with
  | nil => exact absurd rfl h
  | cons a l => exact List.mem_cons_self ..
theorem first_is {n : Nat} {ps : List (List Int)} (hp : ∀ p ∈ ps, Pt n p) (hne : ps ≠ []) : firstOf ps ∈ ps ∧ ∀ p ∈ ps, lexlt (toQ p) (toQ (firstOf ps)) = false := by
  have := keep_fold_on comesBefore (Pt n) (fun {a b c} ia ib ic h1 h2 => by
      rw [comes_lex ia.1 ib.1] at h1
      rw [comes_lex ib.1 ic.1] at h2
      rw [comes_lex ia.1 ic.1]
      exact lex_trans h1 h2) (fun a ia => by rw [comes_lex ia.1 ia.1]; exact lex_irrefl _) (fun {a b c} ia ib ic h1 h2 => by
      rw [comes_lex ia.1 ib.1] at h1
      rw [comes_lex ib.1 ic.1] at h2
      rw [comes_lex ia.1 ic.1]
      refine Bool.eq_false_iff.mpr fun q => ?_
      have lab : (toQ a).length = (toQ b).length := by rw [toQ_length, toQ_length, ia.2, ib.2]
      cases w : lexlt (toQ b) (toQ a) with
      | true =>
        have := lex_trans w q
        rw [h2] at this
        cases this
      | false =>
        have := lex_total lab h1 w
        rw [this, h2] at q
        cases q) ps (ps.getD 0 []) (hp _ (getD_zero_mem hne)) hp
  obtain ⟨a, _, c⟩ := this
  have m : firstOf ps ∈ ps := a.elim (fun e => by unfold firstOf firstFrom; rw [e]; exact getD_zero_mem hne) id
  exact ⟨m, fun p h => by
    have this : comesBefore p (firstOf ps) = false := c p h
    rw [comes_lex (hp p h).1 (hp _ m).1] at this
    exact this⟩
theorem top_is {n : Nat} {goal : List Int} {ps : List (List Int)} (hp : ∀ p ∈ ps, Pt n p) (hne : ps ≠ []) : topOf goal ps ∈ ps ∧ ∀ p ∈ ps, exceeds p (topOf goal ps) goal = false := by
  have ex : ∀ {a b : List Int}, Pt n a → Pt n b → (exceeds a b goal = true ↔ vd goal (toQ b) < vd goal (toQ a)) := fun ia ib => exceeds_val ia.1 ib.1
  have nx : ∀ {a b : List Int}, Pt n a → Pt n b → (exceeds a b goal = false ↔ ¬ vd goal (toQ b) < vd goal (toQ a)) := fun ia ib => by
    rw [← ex ia ib]
    simp
  have := keep_fold_on (fun p t => exceeds p t goal) (Pt n) (fun {a b c} ia ib ic h1 h2 => by
      rw [ex ia ib] at h1
      rw [ex ib ic] at h2
      rw [ex ia ic]
      grind) (fun a ia => by rw [nx ia ia]; exact Rat.lt_irrefl) (fun {a b c} ia ib ic h1 h2 => by
      rw [nx ia ib] at h1
      rw [nx ib ic] at h2
      rw [nx ia ic]
      grind) ps (ps.getD 0 []) (hp _ (getD_zero_mem hne)) hp
  obtain ⟨a, _, c⟩ := this
  exact ⟨a.elim (fun e => by unfold topOf; rw [e]; exact getD_zero_mem hne) id, c⟩
theorem best_is {n : Nat} {goal : List Int} {ps : List (List Int)} (hp : ∀ p ∈ ps, Pt n p) (hne : ps ≠ []) : bestOf ps goal ∈ ps ∧ ∀ p ∈ ps, ¬ better (vd goal) (toQ p) (toQ (bestOf ps goal)) := by
  obtain ⟨tm, tx⟩ := top_is (goal := goal) hp hne
  have nx : ∀ {a b : List Int}, Pt n a → Pt n b → (exceeds a b goal = false ↔ ¬ vd goal (toQ b) < vd goal (toQ a)) := fun ia ib => by
    rw [← exceeds_val ia.1 ib.1]
    simp
  have tk : topOf goal ps ∈ ps.filter fun p => !exceeds (topOf goal ps) p goal := by
    rw [List.mem_filter]
    exact ⟨tm, by rw [tx _ tm]; rfl⟩
  obtain ⟨fm, fx⟩ := first_is (n := n) (ps := ps.filter fun p => !exceeds (topOf goal ps) p goal) (fun p h => hp p (List.mem_filter.mp h).1) (fun e => by rw [e] at tk; exact absurd tk List.not_mem_nil)
  have eb : firstOf (ps.filter fun p => !exceeds (topOf goal ps) p goal) = bestOf ps goal := rfl
  rw [eb] at fm fx
  have fm' := List.mem_filter.mp fm
  refine ⟨fm'.1, fun p h => ?_⟩
  have pb := hp _ fm'.1
  have e1 : exceeds (topOf goal ps) (bestOf ps goal) goal = false := by
    have := fm'.2
    rw [Bool.not_eq_true'] at this
    exact this
  rw [nx (hp _ tm) pb] at e1
  have e2 := (nx (hp p h) (hp _ tm)).mp (tx p h)
  rintro (q | ⟨q, k⟩)
  · change vd goal (toQ (bestOf ps goal)) < vd goal (toQ p) at q
    grind
  · have : p ∈ ps.filter fun p => !exceeds (topOf goal ps) p goal := by
      rw [List.mem_filter]
      refine ⟨h, ?_⟩
      rw [Bool.not_eq_true', nx (hp _ tm) (hp p h)]
      change vd goal (toQ p) = vd goal (toQ (bestOf ps goal)) at q
      rw [q]
      exact e1
    have := fx p this
    change lexlt (toQ p) (toQ (bestOf ps goal)) = true at k
    rw [this] at k
    cases k
end CB

/- CbNet -/
/-! Closed networks. -/
namespace CB
open Lrx1 (Fraction)

structure MC where
  think : Int
  customers : Int
  demands : List Int

def smallerM (a b : List Int) : List Int := if a.getD 0 0 * b.getD 1 0 ≤ b.getD 0 0 * a.getD 1 0 then a else b
def maxL (l : List Int) : Int := l.foldl max 0
def asymM (c : MC) : List Int :=
  lowest c.customers (c.customers * c.demands.sum + c.think) ++ smallerM (lowest c.customers (c.demands.sum + c.think)) [1, maxL c.demands]
def balM (c : MC) : List Int :=
  lowest (c.customers * (c.customers * c.demands.sum + c.think)) ((c.demands.sum + c.think) * (c.customers * c.demands.sum + c.think) + (c.customers - 1) * maxL c.demands * c.customers * c.demands.sum)
  ++ smallerM (lowest (c.customers * (c.demands.length : Int) * (c.demands.sum + c.think)) ((c.demands.length : Int) * (c.demands.sum + c.think) * (c.demands.sum + c.think) + (c.customers - 1) * c.demands.sum * c.demands.sum)) [1, maxL c.demands]
def satM (c : MC) : List Int := lowest (c.demands.sum + c.think) (maxL c.demands)

def stays (c : MC) (whole : Int) (lengths : List Int) : List Int := List.zipWith (fun d l => d * (whole + l)) c.demands lengths
/-- what is kept behind so many customers: whole, lengths, and what is found -/
def exM (c : MC) : Nat → Int × List Int × List (List Int)
  | 0 => (1, List.replicate c.demands.length 0, [lowest 0 1])
  | k + 1 =>
    let s := exM c k
    let st := stays c s.1 s.2.1
    let rt := c.think * s.1 + st.sum
    (rt, st.map (fun x => ((k + 1 : Nat) : Int) * x), s.2.2 ++ [lowest (((k + 1 : Nat) : Int) * s.1) rt])
def exactM (c : MC) (most : Nat) : List (List Int) := (exM c most).2.2

/-- a cycle of the specification, as the program holds it -/
def mcOf (c : Lrx6.Cycle) : MC := ⟨(c.think : Int), (c.customers : Int), c.demands.map fun (d : Nat) => (d : Int)⟩
/-- what set_cycle lets in -/
def OkC (c : Lrx6.Cycle) : Prop := 1 ≤ c.customers ∧ c.demands ≠ [] ∧ ∀ d ∈ c.demands, 1 ≤ d

theorem foldl_add_nat : ∀ (l : List Nat) (a : Nat), ((l.foldl (fun (a b : Nat) => a + b) a : Nat) : Int) = (a : Int) + (l.map fun (d : Nat) => (d : Int)).sum
  | [], a => by simp
  | x :: l, a => by
    rw [List.foldl_cons, foldl_add_nat l, List.map_cons, List.sum_cons]
    omega
theorem total_is (c : Lrx6.Cycle) : ((Lrx6.totalDemand c : Nat) : Int) = (mcOf c).demands.sum := by
  unfold Lrx6.totalDemand
  rw [foldl_add_nat]
  show ((0 : Nat) : Int) + _ = _
  simp [mcOf]
theorem foldl_max_nat : ∀ (l : List Nat) (a : Nat), ((l.foldl max a : Nat) : Int) = (l.map fun (d : Nat) => (d : Int)).foldl max (a : Int)
  | [], _ => rfl
  | x :: l, a => by
    rw [List.foldl_cons, foldl_max_nat l, List.map_cons, List.foldl_cons]
    congr 1
    omega
theorem greatest_is (c : Lrx6.Cycle) : ((Lrx6.greatestDemand c : Nat) : Int) = maxL (mcOf c).demands := foldl_max_nat _ _
theorem foldl_max_le : ∀ (l : List Nat) (a : Nat), a ≤ l.foldl max a ∧ ∀ d ∈ l, d ≤ l.foldl max a
  | [], a => ⟨Nat.le_refl _, fun d h => absurd h List.not_mem_nil⟩
  | x :: l, a => by
    obtain ⟨h1, h2⟩ := foldl_max_le l (max a x)
    rw [List.foldl_cons]
    refine ⟨by omega, fun d hd => ?_⟩
    rcases List.mem_cons.mp hd with rfl | hd
    · omega
    · exact h2 d hd
theorem greatest_pos {c : Lrx6.Cycle} (h : OkC c) : 0 < Lrx6.greatestDemand c := by
  obtain ⟨_, h1, h2⟩ := h
  cases e : c.demands with
  | nil => exact absurd e h1
  | cons x l =>
    have := (foldl_max_le c.demands 0).2 x (by rw [e]; exact List.mem_cons_self ..)
    have := h2 x (by rw [e]; exact List.mem_cons_self ..)
    unfold Lrx6.greatestDemand
    omega
theorem total_pos {c : Lrx6.Cycle} (h : OkC c) : 0 < Lrx6.totalDemand c := by
  obtain ⟨_, h1, h2⟩ := h
  have key : ∀ (l : List Nat) (a : Nat), a ≤ l.foldl (fun (a b : Nat) => a + b) a := by
    intro l
    induction l with
    | nil => intro a; exact Nat.le_refl _
    | cons x l ih =>
      intro a
      rw [List.foldl_cons]
      have := ih (a + x)
      omega
  cases e : c.demands with
  | nil => exact absurd e h1
  | cons x l =>
    have := h2 x (by rw [e]; exact List.mem_cons_self ..)
    unfold Lrx6.totalDemand
    rw [e, List.foldl_cons]
    have := key l (0 + x)
    omega

theorem reduce_lowest {n : Int} {d : Nat} (h : 0 < d) : Lrx1.ints (Lrx1.reduce n d) = lowest n (d : Int) := by
  rw [ints_lowest n d (by omega), reduce_fr]
  congr 3
theorem ints_smaller (a b : Fraction) : Lrx1.ints (Lrx6.smaller a b) = smallerM (Lrx1.ints a) (Lrx1.ints b) := by
  unfold Lrx6.smaller smallerM Lrx1.le Lrx1.ints
  show _ = if a.num * (b.den : Int) ≤ b.num * (a.den : Int) then _ else _
  by_cases h : a.num * (b.den : Int) ≤ b.num * (a.den : Int)
  · rw [if_pos h, if_pos (decide_eq_true h)]
  · rw [if_neg h, if_neg (by simpa using h)]
theorem one_frac {d : Nat} (h : 0 < d) : Lrx1.ints (Lrx6.frac 1 d) = [1, (d : Int)] := by
  unfold Lrx6.frac
  rw [reduce_lowest h]
  unfold lowest
  have : Int.gcd ((1 : Nat) : Int) (d : Int) = 1 := by
    show Nat.gcd 1 d = 1
    exact Nat.gcd_one_left d
  rw [this]
  simp
theorem asym_is {c : Lrx6.Cycle} (h : OkC c) : Lrx1.ints (Lrx6.asymptoticLow c) ++ Lrx1.ints (Lrx6.asymptoticHigh c) = asymM (mcOf c) := by
  have tp := total_pos h
  have gp := greatest_pos h
  unfold Lrx6.asymptoticLow Lrx6.asymptoticHigh asymM
  have a1 : 0 < c.customers * Lrx6.totalDemand c + c.think := by
    have := Nat.mul_pos h.1 tp
    omega
  rw [ints_smaller, one_frac gp]
  unfold Lrx6.frac
  rw [reduce_lowest a1, reduce_lowest (by omega)]
  rw [← total_is, ← greatest_is]
  show lowest (c.customers : Int) _ ++ smallerM (lowest (c.customers : Int) _) _ = lowest (c.customers : Int) ((c.customers : Int) * _ + (c.think : Int)) ++ smallerM (lowest (c.customers : Int) (_ + (c.think : Int))) _
  congr 2
theorem sat_is {c : Lrx6.Cycle} (h : OkC c) : Lrx1.ints (Lrx6.saturation c) = satM (mcOf c) := by
  have gp := greatest_pos h
  unfold Lrx6.saturation satM Lrx6.frac
  rw [reduce_lowest gp, ← total_is, ← greatest_is]
  congr 1

theorem natCast_rat (n : Nat) : ((n : Int) : Rat) = (n : Rat) := Rat.intCast_natCast n
theorem div_div_ (n q y : Rat) : n / (q / y) = n * y / q := by
  rw [Rat.div_def, Rat.div_def q y, Rat.inv_mul_rev, Rat.inv_inv, Rat.div_def, ← Rat.mul_assoc]
theorem bal_low (n d z m : Rat) (hn : 0 < n) (hd : 0 < d) (hz : 0 ≤ z) : n / (d + z + (n - 1) * m / (1 + z / (n * d))) = n * (n * d + z) / ((d + z) * (n * d + z) + (n - 1) * m * n * d) := by
  have h1 : 0 < n * d := Rat.mul_pos hn hd
  have h2 : n * d + z ≠ 0 := by grind
  have h3 : n * d ≠ 0 := by grind
  have e1 : 1 + z / (n * d) = (n * d + z) / (n * d) := by grind
  have e2 : (n - 1) * m / ((n * d + z) / (n * d)) = (n - 1) * m * n * d / (n * d + z) := by grind
  have e3 : d + z + (n - 1) * m * n * d / (n * d + z) = ((d + z) * (n * d + z) + (n - 1) * m * n * d) / (n * d + z) := by grind
  rw [e1, e2, e3, div_div_]
theorem bal_high (n d z k : Rat) (hd : 0 < d) (hz : 0 ≤ z) (hk : 0 < k) : n / (d + z + (n - 1) * (d / k) / (1 + z / d)) = n * k * (d + z) / (k * (d + z) * (d + z) + (n - 1) * d * d) := by
  have h2 : d + z ≠ 0 := by grind
  have h3 : d ≠ 0 := by grind
  have h4 : k ≠ 0 := by grind
  have e1 : 1 + z / d = (d + z) / d := by grind
  have e2 : (n - 1) * (d / k) / ((d + z) / d) = (n - 1) * d * d / (k * (d + z)) := by grind
  have e3 : d + z + (n - 1) * d * d / (k * (d + z)) = (k * (d + z) * (d + z) + (n - 1) * d * d) / (k * (d + z)) := by grind
  rw [e1, e2, e3, div_div_]
  congr 1
  grind
theorem bal_is {c : Lrx6.Cycle} (h : OkC c) : Lrx1.ints (Lrx6.balancedLow c) ++ Lrx1.ints (Lrx6.balancedHigh c) = balM (mcOf c) := by
  have tp := total_pos h
  have gp := greatest_pos h
  have np := h.1
  have lp : 0 < c.demands.length := by
    cases e : c.demands with
    | nil => exact absurd e h.2.1
    | cons x l => simp
  have tq : (0 : Rat) < ((Lrx6.totalDemand c : Int) : Rat) := by
    have : (0 : Int) < (Lrx6.totalDemand c : Int) := by omega
    exact_mod_cast this
  have nq : (0 : Rat) < ((c.customers : Int) : Rat) := by
    have : (0 : Int) < (c.customers : Int) := by omega
    exact_mod_cast this
  have zq : (0 : Rat) ≤ ((c.think : Int) : Rat) := by
    have : (0 : Int) ≤ (c.think : Int) := by omega
    exact_mod_cast this
  have lq : (0 : Rat) < ((c.demands.length : Int) : Rat) := by
    have : (0 : Int) < (c.demands.length : Int) := by omega
    exact_mod_cast this
  have tI : (0 : Int) < (Lrx6.totalDemand c : Int) := by omega
  have nI : (0 : Int) < (c.customers : Int) := by omega
  have lI : (0 : Int) < (c.demands.length : Int) := by omega
  unfold Lrx6.balancedLow Lrx6.balancedHigh balM
  simp only [whole_fr, one_fr, mul_fr, sub_fr, divide_fr, add_fr]
  rw [ints_smaller, one_frac gp]
  rw [bal_low _ _ _ _ nq tq zq, bal_high _ _ _ _ tq zq lq]
  have hc : (mcOf c).customers = (c.customers : Int) := rfl
  have hz : (mcOf c).think = (c.think : Int) := rfl
  have hl : ((mcOf c).demands.length : Int) = (c.demands.length : Int) := by simp [mcOf]
  rw [← total_is, ← greatest_is, hc, hz, hl]
  have b1 : (0 : Int) < ((Lrx6.totalDemand c : Int) + c.think) * ((c.customers : Int) * (Lrx6.totalDemand c : Int) + c.think) + ((c.customers : Int) - 1) * (Lrx6.greatestDemand c : Int) * c.customers * (Lrx6.totalDemand c : Int) := by
    have x1 : (0 : Int) < (c.customers : Int) * (Lrx6.totalDemand c : Int) := Int.mul_pos nI tI
    have x2 : (0 : Int) < ((Lrx6.totalDemand c : Int) + c.think) * ((c.customers : Int) * (Lrx6.totalDemand c : Int) + c.think) := Int.mul_pos (by omega) (by omega)
    have x3 : (0 : Int) ≤ ((c.customers : Int) - 1) * (Lrx6.greatestDemand c : Int) * c.customers * (Lrx6.totalDemand c : Int) :=
      Int.mul_nonneg (Int.mul_nonneg (Int.mul_nonneg (by omega) (by omega)) (by omega)) (by omega)
    omega
  have b2 : (0 : Int) < (c.demands.length : Int) * ((Lrx6.totalDemand c : Int) + c.think) * ((Lrx6.totalDemand c : Int) + c.think) + ((c.customers : Int) - 1) * (Lrx6.totalDemand c : Int) * (Lrx6.totalDemand c : Int) := by
    have x2 : (0 : Int) < (c.demands.length : Int) * ((Lrx6.totalDemand c : Int) + c.think) * ((Lrx6.totalDemand c : Int) + c.think) := Int.mul_pos (Int.mul_pos lI (by omega)) (by omega)
    have x3 : (0 : Int) ≤ ((c.customers : Int) - 1) * (Lrx6.totalDemand c : Int) * (Lrx6.totalDemand c : Int) := Int.mul_nonneg (Int.mul_nonneg (by omega) (by omega)) (by omega)
    omega
  rw [ints_lowest _ _ b1, ints_lowest _ _ b2]
  have c1 : ((1 : Int) : Rat) = 1 := rfl
  simp only [Rat.intCast_add, Rat.intCast_mul, Rat.intCast_sub, c1]

/-! ### the exact throughput -/
theorem exM_len (c : MC) : ∀ k, (exM c k).2.1.length = c.demands.length
  | 0 => by simp [exM]
  | k + 1 => by
    have := exM_len c k
    simp [exM, stays, this]
theorem exM_found (c : MC) : ∀ k, (exM c k).2.2.length = k + 1
  | 0 => by simp [exM]
  | k + 1 => by
    have := exM_found c k
    simp [exM, this]
theorem sum_nonneg : ∀ {l : List Int}, (∀ a ∈ l, 0 ≤ a) → 0 ≤ l.sum
  | [], _ => by simp
  | a :: l, h => by
    have := sum_nonneg fun b hb => h b (List.mem_cons_of_mem _ hb)
    have := h a (List.mem_cons_self ..)
    rw [List.sum_cons]
    omega
theorem sum_map_div {d : Rat} : ∀ l : List Int, (l.map fun (x : Int) => (x : Rat) / d).sum = (l.sum : Rat) / d
  | [] => by simp [Rat.div_def]
  | a :: l => by
    rw [List.map_cons, List.sum_cons, sum_map_div l, List.sum_cons, Rat.intCast_add]
    grind
theorem exact_is {c : Lrx6.Cycle} (h : OkC c) : ∀ k, 0 < (exM (mcOf c) k).1 ∧ (∀ l ∈ (exM (mcOf c) k).2.1, 0 ≤ l) ∧
    (Lrx6.exactAt c k).1 = ((exM (mcOf c) k).2.1.map fun (l : Int) => (l : Rat) / (((exM (mcOf c) k).1 : Int) : Rat)).map fr ∧
    (exM (mcOf c) k).2.2.getD k [] = Lrx1.ints (Lrx6.exactAt c k).2
  | 0 => by
    refine ⟨by show (0 : Int) < 1; decide, fun l hl => ?_, ?_, ?_⟩
    · have := List.eq_of_mem_replicate hl
      omega
    · show c.demands.map (fun _ => Lrx1.zero) = ((List.replicate (mcOf c).demands.length (0 : Int)).map fun (l : Int) => (l : Rat) / ((1 : Int) : Rat)).map fr
      rw [List.map_replicate, List.map_replicate, List.map_const', show (mcOf c).demands.length = c.demands.length from List.length_map _]
      congr 1
      have z : ((0 : Int) : Rat) / ((1 : Int) : Rat) = 0 := by
        show (0 : Rat) / 1 = 0
        grind
      rw [z]
      rfl
    · rfl
  | k + 1 => by
    obtain ⟨w0, l0, e0, _⟩ := exact_is h k
    have len := exM_len (mcOf c) k
    have flen := exM_found (mcOf c) k
    generalize hs : exM (mcOf c) k = s at *
    have wq : (0 : Rat) < (s.1 : Rat) := by exact_mod_cast w0
    have dl : (mcOf c).demands.length = c.demands.length := List.length_map _
    -- the stays
    have st0 : ∀ x ∈ stays (mcOf c) s.1 s.2.1, 0 ≤ x := by
      intro x hx
      unfold stays at hx
      obtain ⟨i, hi, rfl⟩ := List.getElem_of_mem hx
      rw [List.getElem_zipWith]
      have a : 0 ≤ (mcOf c).demands[i]'(by simp at hi; omega) := by
        obtain ⟨d, _, e⟩ := List.mem_map.mp (show (mcOf c).demands[i]'(by simp at hi; omega) ∈ c.demands.map (fun (d : Nat) => (d : Int)) from List.getElem_mem _)
        rw [← e]
        exact Int.natCast_nonneg d
      have b := l0 (s.2.1[i]'(by simp at hi; omega)) (List.getElem_mem _)
      exact Int.mul_nonneg a (by omega)
    have st1 : 0 < (stays (mcOf c) s.1 s.2.1).sum := by
      unfold stays
      have e1 : (mcOf c).demands = c.demands.map fun (d : Nat) => (d : Int) := rfl
      cases e : c.demands with
      | nil => exact absurd e h.2.1
      | cons x l =>
        have hx := h.2.2 x (by rw [e]; exact List.mem_cons_self ..)
        cases e2 : s.2.1 with
        | nil => rw [e2, dl, e] at len; simp at len
        | cons y m =>
          have hm : ∀ z ∈ List.zipWith (fun d l => d * (s.1 + l)) (l.map fun (d : Nat) => (d : Int)) m, 0 ≤ z := by
            intro z hz
            refine st0 z ?_
            unfold stays
            rw [e1, e, e2]
            exact List.mem_cons_of_mem _ hz
          rw [e1, e, List.map_cons, List.zipWith_cons_cons, List.sum_cons]
          have := sum_nonneg hm
          have y0 := l0 y (by rw [e2]; exact List.mem_cons_self ..)
          have : (0 : Int) < (x : Int) * (s.1 + y) := Int.mul_pos (by omega) (by omega)
          omega
    have think0 : 0 ≤ (mcOf c).think * s.1 := Int.mul_nonneg (by show (0 : Int) ≤ (c.think : Int); omega) (by omega)
    have rt0 : 0 < (mcOf c).think * s.1 + (stays (mcOf c) s.1 s.2.1).sum := by omega
    have rq : (0 : Rat) < (((mcOf c).think * s.1 + (stays (mcOf c) s.1 s.2.1).sum : Int) : Rat) := by exact_mod_cast rt0
    have ex : exM (mcOf c) (k + 1) = ((mcOf c).think * s.1 + (stays (mcOf c) s.1 s.2.1).sum, (stays (mcOf c) s.1 s.2.1).map (fun x => ((k + 1 : Nat) : Int) * x), s.2.2 ++ [lowest (((k + 1 : Nat) : Int) * s.1) ((mcOf c).think * s.1 + (stays (mcOf c) s.1 s.2.1).sum)]) := by
      unfold exM
      rw [hs]
    -- the specification's times
    have times : ((List.range c.demands.length).map fun i => Lrx1.mul (Lrx1.whole (c.demands.getD i 0 : Int)) (Lrx1.add Lrx1.one (Lrx1.entry (Lrx6.exactAt c k).1 i)))
        = ((stays (mcOf c) s.1 s.2.1).map fun (x : Int) => (x : Rat) / (s.1 : Rat)).map fr := by
      rw [e0]
      refine List.ext_getElem (by simp [stays, len, dl]) fun i i1 i2 => ?_
      have hi : i < c.demands.length := by simpa using i1
      rw [List.getElem_map, List.getElem_range, List.getElem_map, List.getElem_map, entry_fr, whole_fr, one_fr, add_fr, mul_fr]
      congr 1
      have g1 : (s.2.1.map fun (l : Int) => (l : Rat) / ((s.1 : Int) : Rat)).getD i 0 = ((s.2.1[i]'(by omega) : Int) : Rat) / (s.1 : Rat) := by
        rw [List.getD_eq_getElem?_getD, List.getElem?_map, List.getElem?_eq_getElem (show i < s.2.1.length by omega)]
        rfl
      have g2 : c.demands.getD i 0 = c.demands[i] := by
        rw [List.getD_eq_getElem?_getD, List.getElem?_eq_getElem hi]
        rfl
      have g3 : (stays (mcOf c) s.1 s.2.1)[i]'(by simpa using i2) = ((c.demands[i] : Nat) : Int) * (s.1 + s.2.1[i]'(by omega)) := by
        unfold stays
        rw [List.getElem_zipWith]
        have : (mcOf c).demands[i]'(by omega) = ((c.demands[i] : Nat) : Int) := by
          have q : (mcOf c).demands[i]? = some ((c.demands[i] : Nat) : Int) := by
            show (c.demands.map fun (d : Nat) => (d : Int))[i]? = _
            rw [List.getElem?_map, List.getElem?_eq_getElem hi]
            rfl
          rw [List.getElem?_eq_getElem (by omega)] at q
          exact Option.some.inj q
        rw [this]
      rw [g1, g2, g3, Rat.intCast_mul, Rat.intCast_add]
      grind
    have rate : Lrx1.divide (Lrx1.whole ((k + 1 : Nat) : Int)) (Lrx1.add (Lrx1.whole (c.think : Int)) (Lrx1.sum ((List.range c.demands.length).map fun i => Lrx1.mul (Lrx1.whole (c.demands.getD i 0 : Int)) (Lrx1.add Lrx1.one (Lrx1.entry (Lrx6.exactAt c k).1 i)))))
        = fr (((((k + 1 : Nat) : Int) * s.1 : Int) : Rat) / (((mcOf c).think * s.1 + (stays (mcOf c) s.1 s.2.1).sum : Int) : Rat)) := by
      rw [times, sum_fr, sum_map_div, whole_fr, whole_fr, add_fr, divide_fr]
      congr 1
      have hc : (mcOf c).think = (c.think : Int) := rfl
      rw [hc] at rq ⊢
      rw [Rat.intCast_add, Rat.intCast_mul] at rq ⊢
      rw [Rat.intCast_mul]
      have : ((c.think : Int) : Rat) + ((stays (mcOf c) s.1 s.2.1).sum : Rat) / (s.1 : Rat) = (((c.think : Int) : Rat) * (s.1 : Rat) + ((stays (mcOf c) s.1 s.2.1).sum : Rat)) / (s.1 : Rat) := by grind
      rw [this]
      grind
    have sp : Lrx6.exactAt c (k + 1) = (((List.range c.demands.length).map fun i => Lrx1.mul (Lrx1.whole (c.demands.getD i 0 : Int)) (Lrx1.add Lrx1.one (Lrx1.entry (Lrx6.exactAt c k).1 i))).map (Lrx1.mul (Lrx1.divide (Lrx1.whole ((k + 1 : Nat) : Int)) (Lrx1.add (Lrx1.whole (c.think : Int)) (Lrx1.sum ((List.range c.demands.length).map fun i => Lrx1.mul (Lrx1.whole (c.demands.getD i 0 : Int)) (Lrx1.add Lrx1.one (Lrx1.entry (Lrx6.exactAt c k).1 i))))))), Lrx1.divide (Lrx1.whole ((k + 1 : Nat) : Int)) (Lrx1.add (Lrx1.whole (c.think : Int)) (Lrx1.sum ((List.range c.demands.length).map fun i => Lrx1.mul (Lrx1.whole (c.demands.getD i 0 : Int)) (Lrx1.add Lrx1.one (Lrx1.entry (Lrx6.exactAt c k).1 i)))))) := rfl
    rw [ex, sp, rate, times]
    refine ⟨rt0, fun l hl => ?_, ?_, ?_⟩
    · obtain ⟨x, hx, rfl⟩ := List.mem_map.mp hl
      exact Int.mul_nonneg (by omega) (st0 x hx)
    · show List.map (Lrx1.mul _) (List.map fr _) = List.map fr (List.map _ (List.map _ _))
      rw [List.map_map, List.map_map, List.map_map, List.map_map]
      apply List.map_congr_left
      intro x _
      show Lrx1.mul (fr _) (fr _) = fr _
      rw [mul_fr]
      congr 1
      show _ * ((x : Rat) / (s.1 : Rat)) = ((((k + 1 : Nat) : Int) * x : Int) : Rat) / _
      rw [Rat.intCast_mul, Rat.intCast_mul]
      grind
    · show (s.2.2 ++ [_]).getD (k + 1) [] = _
      rw [List.getD_eq_getElem?_getD, List.getElem?_append_right (by omega), flen, Nat.sub_self]
      show lowest _ _ = _
      exact ints_lowest _ _ rt0
/-- what was found stays at its place -/
theorem exM_stays (c : MC) : ∀ (k j : Nat), j ≤ k → (exM c k).2.2.getD j [] = (exM c j).2.2.getD j []
  | 0, j, h => by rw [show j = 0 by omega]
  | k + 1, j, h => by
    by_cases e : j = k + 1
    · rw [e]
    · rw [← exM_stays c k j (by omega)]
      have := exM_found c k
      show ((exM c k).2.2 ++ [_]).getD j [] = _
      rw [List.getD_eq_getElem?_getD, List.getElem?_append_left (by omega), ← List.getD_eq_getElem?_getD]
theorem exact_all {c : Lrx6.Cycle} (h : OkC c) (k : Nat) : exactM (mcOf c) k = (List.range (k + 1)).map fun j => Lrx1.ints (Lrx6.exactAt c j).2 := by
  refine List.ext_getElem (by simp [exactM, exM_found]) fun i i1 i2 => ?_
  have hi : i < k + 1 := by simpa using i2
  rw [List.getElem_map, List.getElem_range, ← (exact_is h i).2.2.2, ← exM_stays _ k i (by omega)]
  unfold exactM at *
  rw [List.getD_eq_getElem?_getD, List.getElem?_eq_getElem i1]
  rfl
end CB

/- CbOps -/
/-! What the operations of the specification answer, in the program's numbers. -/
namespace CB
open Lrx1 (Fraction)
open Lrx6 (Constraint)

/-! ### vectors and points -/
theorem common_den : ∀ q : List Rat, ∃ (D : Int) (ks : List Int), 0 < D ∧ q = ks.map fun (k : Int) => (k : Rat) / (D : Rat)
  | [] => ⟨1, [], by decide, rfl⟩
  | r :: q => by
    obtain ⟨D, ks, hD, rfl⟩ := common_den q
    have hr : (0 : Int) < (r.den : Int) := by have := r.den_pos; omega
    refine ⟨D * (r.den : Int), (r.num * D) :: ks.map (fun k => k * (r.den : Int)), Int.mul_pos hD hr, ?_⟩
    have d1 : (D : Rat) ≠ 0 := by
      have : D ≠ 0 := by omega
      exact_mod_cast this
    have d2 : ((r.den : Int) : Rat) ≠ 0 := by
      have : (r.den : Int) ≠ 0 := by omega
      exact_mod_cast this
    rw [List.map_cons, List.map_map]
    congr 1
    · have e := rat_eq r
      rw [← Rat.intCast_natCast] at e
      rw [Rat.intCast_mul, Rat.intCast_mul]
      grind
    · apply List.map_congr_left
      intro k _
      show _ = ((k * (r.den : Int) : Int) : Rat) / _
      rw [Rat.intCast_mul, Rat.intCast_mul]
      grind
theorem toQ_snoc (ks : List Int) (D : Int) : toQ (ks ++ [D]) = ks.map fun (k : Int) => (k : Rat) / (D : Rat) := by
  unfold toQ
  rw [List.dropLast_concat, List.getLastD_concat]
theorem canon_exists (q : List Rat) : ∃ p, Canon p ∧ p.length = q.length + 1 ∧ toQ p = q := by
  obtain ⟨D, ks, hD, rfl⟩ := common_den q
  have hn : (ks ++ [D]).getLastD 0 ≠ 0 := by rw [List.getLastD_concat]; omega
  exact ⟨lowestPoint (ks ++ [D]), canon_lowest hn, by rw [lowest_length]; simp, by rw [toQ_lowest hn, toQ_snoc]⟩
theorem fr_map_inj {a b : List Rat} (e : a.map fr = b.map fr) : a = b := by
  have := congrArg (List.map fun (x : Fraction) => (x.num : Rat) / ((x.den : Nat) : Rat)) e
  rw [List.map_map, List.map_map] at this
  have i : ((fun (x : Fraction) => (x.num : Rat) / ((x.den : Nat) : Rat)) ∘ fr) = id := by
    funext q
    exact (rat_eq q).symm
  rw [i, List.map_id, List.map_id] at this
  exact this

/-- points that stand for the vectors of a list: just these, each once -/
structure Tells (n : Nat) (ps : List (List Int)) (l : List (List Fraction)) : Prop where
  canon : ∀ p ∈ ps, Canon p ∧ p.length = n + 1
  nodup : ps.Nodup
  mem : ∀ q : List Rat, q.map fr ∈ l ↔ ∃ p ∈ ps, toQ p = q
  form : ∀ v ∈ l, ∃ q : List Rat, v = q.map fr ∧ q.length = n
section
variable {n : Nat} {ps : List (List Int)} {l : List (List Fraction)}
theorem Tells.pt (T : Tells n ps l) : ∀ p ∈ ps, Pt n p := fun p hp => ⟨(T.canon p hp).1.1, (T.canon p hp).2⟩
theorem Tells.nil (T : Tells n ps l) : l = [] ↔ ps = [] := by
  constructor
  · rintro rfl
    cases ps with
    | nil => rfl
    | cons p ps => exact absurd ((T.mem (toQ p)).mpr ⟨p, List.mem_cons_self .., rfl⟩) List.not_mem_nil
  · rintro rfl
    cases l with
    | nil => rfl
    | cons v l =>
      obtain ⟨q, rfl, _⟩ := T.form v (List.mem_cons_self ..)
      obtain ⟨p, hp, _⟩ := (T.mem q).mp (List.mem_cons_self ..)
      exact absurd hp List.not_mem_nil
theorem nodup_eraseDups_ {α : Type} [BEq α] [LawfulBEq α] : ∀ (k : Nat) (l : List α), l.length ≤ k → l.eraseDups.Nodup
  | 0, l, h => by
    have : l = [] := List.length_eq_zero_iff.mp (by omega)
    subst this
    simp
  | k + 1, [], _ => by simp
  | k + 1, a :: l, h => by
    rw [List.eraseDups_cons, List.nodup_cons]
    refine ⟨fun m => ?_, nodup_eraseDups_ k _ ?_⟩
    · rw [List.mem_eraseDups, List.mem_filter] at m
      simp at m
    · have := List.length_filter_le (fun b => !b == a) l
      simp at h
      omega
theorem nodup_map_on {α β : Type} {f : α → β} : ∀ {l : List α}, l.Nodup → (∀ a ∈ l, ∀ b ∈ l, f a = f b → a = b) → (l.map f).Nodup
  | [], _, _ => by simp
  | a :: l, h, k => by
    rw [List.nodup_cons] at h
    rw [List.map_cons, List.nodup_cons]
    refine ⟨fun m => ?_, nodup_map_on h.2 fun x hx y hy => k x (List.mem_cons_of_mem _ hx) y (List.mem_cons_of_mem _ hy)⟩
    obtain ⟨b, hb, e⟩ := List.mem_map.mp m
    have := k b (List.mem_cons_of_mem _ hb) a (List.mem_cons_self ..) e
    exact h.1 (this ▸ hb)
theorem Tells.count (T : Tells n ps l) : l.eraseDups.length = ps.length := by
  have N1 : l.eraseDups.Nodup := nodup_eraseDups_ _ l (Nat.le_refl _)
  have N2 : (ps.map fun p => (toQ p).map fr).Nodup := nodup_map_on T.nodup fun a ha b hb e =>
    canon_inj (T.canon a ha).1 (T.canon b hb).1 ((T.canon a ha).2.trans (T.canon b hb).2.symm) (fr_map_inj e)
  have P := (List.perm_ext_iff_of_nodup N1 N2).mpr fun v => by
    rw [List.mem_eraseDups, List.mem_map]
    constructor
    · intro h
      obtain ⟨q, rfl, _⟩ := T.form v h
      obtain ⟨p, hp, e⟩ := (T.mem q).mp h
      exact ⟨p, hp, by rw [e]⟩
    · rintro ⟨p, hp, rfl⟩
      exact (T.mem (toQ p)).mpr ⟨p, hp, rfl⟩
  rw [P.length_eq, List.length_map]
theorem Tells.filter (T : Tells n ps l) (f : List Int → Bool) (g : List Fraction → Bool) (h : ∀ p ∈ ps, f p = g ((toQ p).map fr)) : Tells n (ps.filter f) (l.filter g) := by
  refine ⟨fun p hp => T.canon p (List.mem_filter.mp hp).1, T.nodup.sublist List.filter_sublist, fun q => ?_, fun v hv => T.form v (List.mem_filter.mp hv).1⟩
  rw [List.mem_filter, T.mem]
  constructor
  · rintro ⟨⟨p, hp, rfl⟩, hg⟩
    exact ⟨p, List.mem_filter.mpr ⟨hp, by rw [h p hp]; exact hg⟩, rfl⟩
  · rintro ⟨p, hp, rfl⟩
    obtain ⟨a, b⟩ := List.mem_filter.mp hp
    exact ⟨⟨p, a, rfl⟩, by rw [← h p a]; exact b⟩
/-- the best of both -/
theorem Tells.best (T : Tells n ps l) (hne : ps ≠ []) {goal : List Int} {f : List Fraction → Fraction} (hf : ∀ q : List Rat, f (q.map fr) = fr (vd goal q)) :
    Lrx6.best f l = some ((toQ (bestOf ps goal)).map fr) ∧ bestOf ps goal ∈ ps := by
  obtain ⟨m, k⟩ := best_is (goal := goal) T.pt hne
  rcases best_spec hf T.form with ⟨e, _⟩ | ⟨r, e, b⟩
  · exact absurd (T.nil.mp e) hne
  · refine ⟨?_, m⟩
    rw [e]
    have : r = toQ (bestOf ps goal) := best_unique (g := vd goal) (I := fun q => q.map fr ∈ l) (n := n) (fun x hx => by
      obtain ⟨q, e, hq⟩ := T.form _ hx
      rw [fr_map_inj e, hq]) b ⟨(T.mem _).mpr ⟨_, m, rfl⟩, fun x hx => by
        obtain ⟨p, hp, rfl⟩ := (T.mem x).mp hx
        exact k p hp⟩
    rw [this]
/-- the first of both -/
theorem Tells.first (T : Tells n ps l) (hne : ps ≠ []) : Lrx6.best (fun _ => Lrx1.zero) l = some ((toQ (firstOf ps)).map fr) ∧ firstOf ps ∈ ps := by
  obtain ⟨m, k⟩ := first_is T.pt hne
  have hf : ∀ q : List Rat, (fun _ => Lrx1.zero) (q.map fr) = fr ((fun _ => (0 : Rat)) q) := fun _ => rfl
  rcases best_spec (g := fun _ => (0 : Rat)) (f := fun _ => Lrx1.zero) hf T.form with ⟨e, _⟩ | ⟨r, e, b⟩
  · exact absurd (T.nil.mp e) hne
  · refine ⟨?_, m⟩
    rw [e]
    have : r = toQ (firstOf ps) := best_unique (g := fun _ => (0 : Rat)) (I := fun q => q.map fr ∈ l) (n := n) (fun x hx => by
      obtain ⟨q, e, hq⟩ := T.form _ hx
      rw [fr_map_inj e, hq]) b ⟨(T.mem _).mpr ⟨_, m, rfl⟩, fun x hx => by
        obtain ⟨p, hp, rfl⟩ := (T.mem x).mp hx
        rintro (q | ⟨_, q⟩)
        · exact Rat.lt_irrefl q
        · rw [k p hp] at q
          cases q⟩
    rw [this]
end

theorem corners_tell {P : Lrx6.Program} (wf : WF P) : Tells P.variables (cornersM (mpOf P)) (Lrx6.corners P) := by
  refine ⟨fun p hp => ?_, search_nodup _ _ _ _ _ List.nodup_nil, fun q => ?_, fun v hv => ?_⟩
  · obtain ⟨a, b, _⟩ := (corners_iff wf p).mp hp
    exact ⟨a, b⟩
  · constructor
    · intro h
      obtain ⟨q', e, f, _⟩ := (spec_corners wf _).mp h
      have e := fr_map_inj e
      subst e
      obtain ⟨p, c, l, e⟩ := canon_exists q
      exact ⟨p, (corners_iff wf p).mpr ⟨c, by rw [l, f.1], by rw [e]; exact h⟩, e⟩
    · rintro ⟨p, hp, rfl⟩
      exact ((corners_iff wf p).mp hp).2.2
  · obtain ⟨q, e, f, _⟩ := (spec_corners wf v).mp hv
    exact ⟨q, e, f.1⟩
theorem raysM_nodup (M : MP) : (raysM M).Nodup := by
  unfold raysM
  split
  · exact List.nodup_nil
  · exact search_nodup _ _ _ _ _ List.nodup_nil
theorem rays_tell {P : Lrx6.Program} (wf : WF P) : Tells P.variables (raysM (mpOf P)) (Lrx6.rays P) := by
  have form : ∀ v ∈ Lrx6.rays P, ∃ q : List Rat, v = q.map fr ∧ q.length = P.variables := fun v hv => by
    rw [rays_eq] at hv
    obtain ⟨q, e, f, _⟩ := (spec_corners (cone_wf wf) v).mp hv
    exact ⟨q, e, f.1⟩
  refine ⟨fun p hp => ?_, raysM_nodup _, fun q => ?_, form⟩
  · obtain ⟨a, b, _⟩ := (rays_iff wf p).mp hp
    exact ⟨a, b⟩
  · constructor
    · intro h
      obtain ⟨q', e, f⟩ := form _ h
      have e := fr_map_inj e
      subst e
      obtain ⟨p, c, l, e⟩ := canon_exists q
      exact ⟨p, (rays_iff wf p).mpr ⟨c, by rw [l, f], by rw [e]; exact h⟩, e⟩
    · rintro ⟨p, hp, rfl⟩
      exact ((rays_iff wf p).mp hp).2.2

/-! ### the program's words -/
def gains (goal p : List Int) : Bool := decide (idot goal p.dropLast > 0)
def improvingM (M : MP) : List (List Int) := (raysM M).filter (gains M.goal)
def dualM (M : MP) : MP := ⟨M.rows.length, (List.range M.width).map (fun j => (M.rows.map fun r => - r.getD j 0) ++ [M.goal.getD j 0]), M.rows.map fun r => r.getLastD 0⟩
def statusM (M : MP) : Int := if (cornersM M).length = 0 then 1 else if (improvingM M).length > 0 then 2 else 0
def provenM (M : MP) (p : List Int) : List Int := valueOf (M.rows.map fun r => - r.getLastD 0) p
def isImpM (M : MP) (p : List Int) : Bool := keepM (coneM M).rows p && gains M.goal p
def prodL (dens : List Int) : Int := dens.foldl (fun c d => c * d) 1
def pointOf (nums dens : List Int) : List Int := List.zipWith (fun a d => a * (prodL dens).fdiv d) nums dens ++ [prodL dens]
def isVecM (nums dens : List Int) (w : Nat) : Bool := if nums.length ≠ w ∨ dens.length ≠ w then false else dens.all fun d => decide (d ≥ 1)

theorem value_fr (P : Lrx6.Program) (q : List Rat) : Lrx6.value P (q.map fr) = fr (vd P.objective q) := dot_fr _ _
theorem gains_fr {p : List Int} (hp : 0 < p.getLastD 0) (goal : List Int) : gains goal p = decide (0 < vd goal (toQ p)) := by
  have e := vd_toQ hp goal
  have hq : (0 : Rat) < ((p.getLastD 0 : Int) : Rat) := by exact_mod_cast hp
  unfold gains
  refine decide_eq_decide.mpr ?_
  show 0 < idot goal p.dropLast ↔ _
  rw [← Rat.intCast_pos, ← e]
  exact Rat.mul_pos_iff_of_pos_right hq
theorem improving_tell {P : Lrx6.Program} (wf : WF P) : Tells P.variables (improvingM (mpOf P)) ((Lrx6.rays P).filter fun d => Lrx1.lt Lrx1.zero (Lrx6.value P d)) := by
  have T := rays_tell wf
  refine T.filter _ _ fun p hp => ?_
  rw [gains_fr (T.pt p hp).1, value_fr, zero_fr, lt_fr]
  rfl
theorem any_filter {α : Type} (f : α → Bool) : ∀ l : List α, l.any f = true ↔ l.filter f ≠ []
  | [] => by simp
  | a :: l => by
    rw [List.any_cons, List.filter_cons]
    cases f a with
    | true => simp
    | false => simp [any_filter f l]
theorem status_is {P : Lrx6.Program} (wf : WF P) : ((Lrx6.status P : Nat) : Int) = statusM (mpOf P) := by
  have C := corners_tell wf
  have I := improving_tell wf
  unfold Lrx6.status statusM
  by_cases h : Lrx6.corners P = []
  · rw [if_pos h, if_pos (by rw [C.nil.mp h]; rfl)]
    rfl
  · rw [if_neg h, if_neg (fun e => h (C.nil.mpr (List.length_eq_zero_iff.mp e)))]
    by_cases k : (Lrx6.rays P).any (fun d => Lrx1.lt Lrx1.zero (Lrx6.value P d)) = true
    · rw [if_pos k]
      have := (any_filter _ _).mp k
      rw [if_pos]
      · rfl
      · have : improvingM (mpOf P) ≠ [] := fun e => this (I.nil.mpr e)
        exact List.length_pos_iff.mpr this
    · rw [if_neg k, if_neg]
      · rfl
      · intro e
        exact k ((any_filter _ _).mpr fun q => by
          rw [I.nil.mp q] at e
          exact absurd e (by decide))

theorem dual_wf (P : Lrx6.Program) : WF (Lrx6.dual P) := by
  intro c hc
  obtain ⟨j, _, rfl⟩ := List.mem_map.mp (show c ∈ (List.range P.variables).map _ from hc)
  simp [Lrx6.dual]
theorem rowOf_getD {c : Constraint} {j : Nat} (h : j < c.coefficients.length) : (rowOf c).getD j 0 = c.coefficients.getD j 0 := by
  unfold rowOf
  rw [List.getD_eq_getElem?_getD, List.getElem?_append_left h, ← List.getD_eq_getElem?_getD]
theorem rowOf_last (c : Constraint) : (rowOf c).getLastD 0 = - c.bound := by
  unfold rowOf
  rw [List.getLastD_concat]
theorem dual_is {P : Lrx6.Program} (wf : WF P) : mpOf (Lrx6.dual P) = dualM (mpOf P) := by
  unfold mpOf dualM Lrx6.dual
  congr 1
  · simp
  · show List.map rowOf (List.map _ _) = _
    rw [List.map_map]
    apply List.map_congr_left
    intro j hj
    have hj := List.mem_range.mp hj
    show (P.constraints.map fun c => -(c.coefficients.getD j 0)) ++ [- -(P.objective.getD j 0)] = (List.map _ (List.map rowOf P.constraints)) ++ [P.objective.getD j 0]
    rw [Int.neg_neg, List.map_map]
    congr 1
    apply List.map_congr_left
    intro c hc
    show _ = - (rowOf c).getD j 0
    rw [rowOf_getD (by rw [wf c hc]; exact hj)]
  · show _ = List.map _ (List.map rowOf P.constraints)
    rw [List.map_map]
    apply List.map_congr_left
    intro c _
    exact (rowOf_last c).symm

/-! ### vectors handed in -/
theorem prod_dvd : ∀ (dens : List Int) (a : Int), a ∣ dens.foldl (fun c d => c * d) a ∧ ∀ d ∈ dens, d ∣ dens.foldl (fun c d => c * d) a
  | [], a => ⟨Int.dvd_refl a, fun d h => absurd h List.not_mem_nil⟩
  | x :: l, a => by
    obtain ⟨h1, h2⟩ := prod_dvd l (a * x)
    rw [List.foldl_cons]
    refine ⟨Int.dvd_trans (Int.dvd_mul_right a x) h1, fun d hd => ?_⟩
    rcases List.mem_cons.mp hd with rfl | hd
    · exact Int.dvd_trans (Int.dvd_mul_left _ _) h1
    · exact h2 d hd
theorem prod_pos : ∀ (dens : List Int) (a : Int), 0 < a → (∀ d ∈ dens, 0 < d) → 0 < dens.foldl (fun c d => c * d) a
  | [], _, h, _ => h
  | x :: l, a, h, k => prod_pos l (a * x) (Int.mul_pos h (k x (List.mem_cons_self ..))) fun d hd => k d (List.mem_cons_of_mem _ hd)
theorem point_is {nums dens : List Int} {n : Nat} (h : isVecM nums dens n = true) : Pt n (pointOf nums dens) ∧ Lrx6.vectorOf nums dens = (toQ (pointOf nums dens)).map fr := by
  unfold isVecM at h
  split at h
  · cases h
  · next hl =>
    have l1 : nums.length = n := Decidable.byContradiction fun c => hl (.inl c)
    have l2 : dens.length = n := Decidable.byContradiction fun c => hl (.inr c)
    rw [List.all_eq_true] at h
    have pos : ∀ d ∈ dens, 0 < d := fun d hd => by
      have := h d hd
      simp at this
      omega
    have pp : 0 < prodL dens := prod_pos dens 1 (by decide) pos
    refine ⟨⟨by unfold pointOf; rw [List.getLastD_concat]; exact pp, by simp [pointOf, l1, l2]⟩, ?_⟩
    unfold pointOf
    rw [toQ_snoc]
    unfold Lrx6.vectorOf
    refine List.ext_getElem (by simp [l1, l2]) fun i i1 i2 => ?_
    rw [List.getElem_map, List.getElem_map, List.getElem_map, List.getElem_zipWith, List.getElem_zip, reduce_fr]
    congr 1
    have hd : dens[i]'(by simp at i1; omega) ∈ dens := List.getElem_mem _
    have dp := pos _ hd
    have dv := fdiv_mul_of_dvd ((prod_dvd dens 1).2 _ hd)
    show ((nums[i]'(by simp at i1; omega) : Int) : Rat) / (((dens[i]'(by simp at i1; omega)).toNat : Nat) : Rat) = _
    generalize nums[i]'(by simp at i1; omega) = a
    generalize dens[i]'(by simp at i1; omega) = d at *
    have e : ((d.toNat : Nat) : Rat) = (d : Rat) := by
      rw [← Rat.intCast_natCast]
      congr 1
      omega
    rw [e]
    have dv : (prodL dens).fdiv d * d = prodL dens := dv
    have d1 : (d : Rat) ≠ 0 := by
      have : d ≠ 0 := by omega
      exact_mod_cast this
    have d2 : ((prodL dens : Int) : Rat) ≠ 0 := by
      have : prodL dens ≠ 0 := by omega
      exact_mod_cast this
    have d3 : (((prodL dens).fdiv d : Int) : Rat) * (d : Rat) = ((prodL dens : Int) : Rat) := by rw [← Rat.intCast_mul, dv]
    rw [Rat.intCast_mul]
    grind
theorem isVec_is (nums dens : List Int) (n : Nat) : Lrx6.isVector n nums dens = isVecM nums dens n := by
  unfold Lrx6.isVector isVecM
  by_cases h : nums.length ≠ n ∨ dens.length ≠ n
  · rw [if_pos h, decide_eq_false]
    · rfl
    · rintro ⟨a, b⟩
      rcases h with h | h
      · exact h a
      · exact h b
  · rw [if_neg h, decide_eq_true ⟨Decidable.byContradiction fun c => h (.inl c), Decidable.byContradiction fun c => h (.inr c)⟩, Bool.true_and]
    congr 1
theorem feas_is {P : Lrx6.Program} (wf : WF P) {p : List Int} (h : Pt P.variables p) : Lrx6.isFeasible P ((toQ p).map fr) = keepM (mpOf P).rows p := by
  rw [Bool.eq_iff_iff, feas_fr, keep_iff wf h.1 h.2]
theorem proven_is {P : Lrx6.Program} {p : List Int} (hp : 0 < p.getLastD 0) : Lrx1.ints (Lrx6.dot (P.constraints.map fun c => c.bound) ((toQ p).map fr)) = provenM (mpOf P) p := by
  unfold provenM
  rw [value_told hp, dot_fr]
  congr 3
  show _ = List.map _ (List.map rowOf P.constraints)
  rw [List.map_map]
  apply List.map_congr_left
  intro c _
  show c.bound = - (rowOf c).getLastD 0
  rw [rowOf_last, Int.neg_neg]
theorem value_is {P : Lrx6.Program} {p : List Int} (hp : 0 < p.getLastD 0) : Lrx1.ints (Lrx6.value P ((toQ p).map fr)) = valueOf P.objective p := by
  rw [value_fr, value_told hp]
theorem ints_inj {a b : Fraction} : Lrx1.ints a = Lrx1.ints b ↔ a = b := by
  constructor
  · intro h
    cases a with | mk n d =>
    cases b with | mk m e =>
    unfold Lrx1.ints at h
    injection h with h1 h2
    injection h2 with h2 _
    have : d = e := by
      have : (d : Int) = (e : Int) := h2
      omega
    have h1 : n = m := h1
    rw [h1, this]
  · rintro rfl
    rfl
theorem slack_is {P : Lrx6.Program} {c : Constraint} {p : List Int} (hp : 0 < p.getLastD 0) (h : p.length = c.coefficients.length + 1) :
    Lrx1.ints (Lrx1.sub (Lrx1.whole c.bound) (Lrx6.dot c.coefficients ((toQ p).map fr))) = lowest (- idot (rowOf c) p) (p.getLastD 0) := by
  rw [ints_lowest _ _ hp, dot_fr, whole_fr, sub_fr]
  congr 2
  unfold rowOf
  rw [idot_row h]
  have e := vd_toQ hp c.coefficients
  have hq : ((p.getLastD 0 : Int) : Rat) ≠ 0 := by
    have : p.getLastD 0 ≠ 0 := by omega
    exact_mod_cast this
  rw [Rat.intCast_neg, Rat.intCast_add, Rat.intCast_mul, Rat.intCast_neg, ← e]
  grind
end CB

/- CbFarkas -/
/-! Where there is no improving ray the dual program has a corner. -/
namespace CB
open Lrx1 (Fraction)
open Lrx6 (Constraint)

/-! ### combinations -/
def pair (n : Nat) (a x : Nat → Rat) : Rat := sm n fun j => a j * x j
theorem pair_add (n : Nat) (a x y : Nat → Rat) (t : Rat) : pair n a (fun j => x j + t * y j) = pair n a x + t * pair n a y := by
  unfold pair
  rw [← sm_mul, ← sm_add]
  exact sm_congr fun j _ => by grind
theorem pair_addL (n : Nat) (a b x : Nat → Rat) (t : Rat) : pair n (fun j => a j + t * b j) x = pair n a x + t * pair n b x := by
  unfold pair
  rw [← sm_mul, ← sm_add]
  exact sm_congr fun j _ => by grind
/-- u times the functionals, summed up -/
def comb : List Rat → List (Nat → Rat) → Nat → Rat
  | u :: us, a :: as, j => u * a j + comb us as j
  | _, _, _ => 0
/-- Farkas: what no vector contradicts is a combination -/
theorem farkas (n : Nat) : ∀ (as : List (Nat → Rat)) (c : Nat → Rat), (∀ x, (∀ a ∈ as, pair n a x ≤ 0) → pair n c x ≤ 0) →
    ∃ us : List Rat, us.length = as.length ∧ (∀ u ∈ us, 0 ≤ u) ∧ ∀ j, j < n → c j = comb us as j
  | [], c, h => by
    refine ⟨[], rfl, fun u hu => absurd hu List.not_mem_nil, fun j hj => ?_⟩
    have one : ∀ t : Rat, pair n c (fun k => if k = j then t else 0) = c j * t := by
      intro t
      unfold pair
      rw [sm_single (i := j) hj fun k _ hk => by
        show c k * (if k = j then t else 0) = 0
        rw [if_neg hk]; grind]
      show c j * (if j = j then t else 0) = c j * t
      rw [if_pos rfl]
    have h1 := h (fun k => if k = j then 1 else 0) fun a ha => absurd ha List.not_mem_nil
    have h2 := h (fun k => if k = j then -1 else 0) fun a ha => absurd ha List.not_mem_nil
    rw [one] at h1 h2
    show c j = 0
    grind
  | a :: as, c, h => by
    by_cases k : ∀ x, (∀ b ∈ as, pair n b x ≤ 0) → pair n c x ≤ 0
    · obtain ⟨us, l, p, e⟩ := farkas n as c k
      refine ⟨0 :: us, by simp [l], fun u hu => ?_, fun j hj => ?_⟩
      · rcases List.mem_cons.mp hu with rfl | hu
        · exact Rat.le_refl
        · exact p u hu
      · show c j = 0 * a j + comb us as j
        rw [e j hj]
        grind
    · have k : ∃ x, (∀ b ∈ as, pair n b x ≤ 0) ∧ 0 < pair n c x := Classical.byContradiction fun q => k fun x hx => by
        rcases Decidable.em (pair n c x ≤ 0) with r | r
        · exact r
        · exact absurd ⟨x, hx, by grind⟩ q
      obtain ⟨x0, hx0, c0⟩ := k
      have a0 : 0 < pair n a x0 := by
        rcases Decidable.em (0 < pair n a x0) with r | r
        · exact r
        · have := h x0 fun b hb => by
            rcases List.mem_cons.mp hb with rfl | hb
            · grind
            · exact hx0 b hb
          grind
      have key := farkas n (as.map fun b j => b j + (-(pair n b x0 / pair n a x0)) * a j) (fun j => c j + (-(pair n c x0 / pair n a x0)) * a j) fun x hx => by
        have y := h (fun j => x j + (-(pair n a x / pair n a x0)) * x0 j) fun b hb => by
          rw [pair_add]
          rcases List.mem_cons.mp hb with rfl | hb
          · have : pair n b x + -(pair n b x / pair n b x0) * pair n b x0 = 0 := by grind
            rw [this]
            exact Rat.le_refl
          · have := hx _ (List.mem_map_of_mem hb)
            rw [pair_addL] at this
            have e : pair n b x + -(pair n a x / pair n a x0) * pair n b x0 = pair n b x + -(pair n b x0 / pair n a x0) * pair n a x := by grind
            rw [e]
            exact this
        rw [pair_add] at y
        rw [pair_addL]
        have e : pair n c x + -(pair n a x / pair n a x0) * pair n c x0 = pair n c x + -(pair n c x0 / pair n a x0) * pair n a x := by grind
        rw [← e]
        exact y
      obtain ⟨us, l, p, e⟩ := key
      rw [List.length_map] at l
      -- what the combination takes of a
      have cs : ∀ (us : List Rat) (bs : List (Nat → Rat)), us.length = bs.length → (∀ u ∈ us, 0 ≤ u) → (∀ b ∈ bs, pair n b x0 ≤ 0) →
          ∃ s : Rat, 0 ≤ s ∧ ∀ j, comb us (bs.map fun b j => b j + (-(pair n b x0 / pair n a x0)) * a j) j = comb us bs j + s * a j := by
        intro us
        induction us with
        | nil =>
          intro bs hl _ _
          have : bs = [] := List.length_eq_zero_iff.mp hl.symm
          subst this
          exact ⟨0, Rat.le_refl, fun j => by show (0 : Rat) = 0 + 0 * a j; grind⟩
        | cons u us ih =>
          intro bs hl hu hb
          cases bs with
          | nil => simp at hl
          | cons b bs =>
            obtain ⟨s, hs, es⟩ := ih bs (by simpa using hl) (fun v hv => hu v (List.mem_cons_of_mem _ hv)) fun v hv => hb v (List.mem_cons_of_mem _ hv)
            have hu' := hu u (List.mem_cons_self ..)
            have hb' := hb b (List.mem_cons_self ..)
            have t0 : 0 ≤ -(pair n b x0 / pair n a x0) := by
              have : 0 ≤ (-(pair n b x0)) * (pair n a x0)⁻¹ := Rat.mul_nonneg (by grind) (Rat.le_of_lt (Rat.inv_pos.mpr a0))
              rw [Rat.div_def]
              grind
            refine ⟨u * -(pair n b x0 / pair n a x0) + s, Rat.add_nonneg (Rat.mul_nonneg hu' t0) hs, fun j => ?_⟩
            show u * (b j + -(pair n b x0 / pair n a x0) * a j) + comb us _ j = u * b j + comb us bs j + _ * a j
            rw [es j]
            grind
      obtain ⟨s, hs, es⟩ := cs us as l p hx0
      have r0 : 0 ≤ pair n c x0 / pair n a x0 := by
        rw [Rat.div_def]
        exact Rat.mul_nonneg (Rat.le_of_lt c0) (Rat.le_of_lt (Rat.inv_pos.mpr a0))
      refine ⟨(pair n c x0 / pair n a x0 + s) :: us, by simp [l], fun u hu => ?_, fun j hj => ?_⟩
      · rcases List.mem_cons.mp hu with rfl | hu
        · exact Rat.add_nonneg r0 hs
        · exact p u hu
      · have := e j hj
        rw [es j] at this
        show c j = (pair n c x0 / pair n a x0 + s) * a j + comb us as j
        grind
termination_by as => as.length
decreasing_by all_goals simp

/-! ### to a corner -/
theorem iv_add (w : Nat) (e : List Int) (z v : Nat → Rat) (t : Rat) : iv w e (fun j => z j + t * v j) = iv w e z + t * iv w e v := by
  unfold iv
  rw [← sm_mul, ← sm_add]
  exact sm_congr fun j _ => by grind
/-- the least of some quotients -/
theorem least_of {α : Type} (f : α → Rat) : ∀ l : List α, l ≠ [] → ∃ a ∈ l, ∀ b ∈ l, f a ≤ f b
  | [], h => absurd rfl h
  | [a], _ => ⟨a, List.mem_cons_self .., fun b hb => by rw [List.mem_singleton] at hb; subst hb; exact Rat.le_refl⟩
  | a :: b :: l, _ => by
    obtain ⟨c, hc, k⟩ := least_of f (b :: l) (by simp)
    by_cases h : f a ≤ f c
    · exact ⟨a, List.mem_cons_self .., fun x hx => by
        rcases List.mem_cons.mp hx with rfl | hx
        · exact Rat.le_refl
        · exact Rat.le_trans h (k x hx)⟩
    · exact ⟨c, List.mem_cons_of_mem _ hc, fun x hx => by
        rcases List.mem_cons.mp hx with rfl | hx
        · grind
        · exact k x hx⟩
/-- a vector that keeps to all rows -/
def Kept (n : Nat) (L : List (List Int)) (z : Nat → Rat) : Prop := z n = 1 ∧ ∀ e ∈ L, iv (n + 1) e z ≤ 0
/-- a direction that the rows that hold with equality let be -/
def Along (n : Nat) (L : List (List Int)) (z v : Nat → Rat) : Prop := v n = 0 ∧ ∀ e ∈ L, iv (n + 1) e z = 0 → iv (n + 1) e v = 0
theorem move {n : Nat} {L : List (List Int)} {z v : Nat → Rat} (hz : Kept n L z) (hv : Along n L z v) (hp : ∃ e ∈ L, 0 < iv (n + 1) e v) :
    ∃ t : Rat, 0 ≤ t ∧ Kept n L (fun j => z j + t * v j) ∧ (∀ e ∈ L, iv (n + 1) e z = 0 → iv (n + 1) e (fun j => z j + t * v j) = 0) ∧ ∃ e ∈ L, iv (n + 1) e z ≠ 0 ∧ iv (n + 1) e (fun j => z j + t * v j) = 0 := by
  let l := L.filter fun e => decide (0 < iv (n + 1) e v)
  have hl : l ≠ [] := by
    obtain ⟨e, he, h⟩ := hp
    intro q
    have : e ∈ l := List.mem_filter.mpr ⟨he, by simpa using h⟩
    rw [q] at this
    exact absurd this List.not_mem_nil
  obtain ⟨e, he, k⟩ := least_of (fun e => -(iv (n + 1) e z) / iv (n + 1) e v) l hl
  have he' := List.mem_filter.mp he
  have ev0 : 0 < iv (n + 1) e v := by simpa using he'.2
  have ez := hz.2 e he'.1
  have ezn : iv (n + 1) e z ≠ 0 := fun q => by
    have := hv.2 e he'.1 q
    grind
  have t0 : 0 ≤ -(iv (n + 1) e z) / iv (n + 1) e v := by
    rw [Rat.div_def]
    exact Rat.mul_nonneg (by grind) (Rat.le_of_lt (Rat.inv_pos.mpr ev0))
  refine ⟨-(iv (n + 1) e z) / iv (n + 1) e v, t0, ⟨?_, fun d hd => ?_⟩, fun d hd h => ?_, e, he'.1, ezn, ?_⟩
  · show z n + _ * v n = 1
    rw [hz.1, hv.1]
    grind
  · rw [iv_add]
    by_cases q : 0 < iv (n + 1) d v
    · have := k d (List.mem_filter.mpr ⟨hd, by simpa using q⟩)
      have := Rat.mul_le_mul_of_nonneg_right this (Rat.le_of_lt q)
      rw [Rat.div_mul_cancel (by grind)] at this
      grind
    · have dz := hz.2 d hd
      have : 0 ≤ -(iv (n + 1) e z) / iv (n + 1) e v * -(iv (n + 1) d v) := Rat.mul_nonneg t0 (by grind)
      grind
  · rw [iv_add, h, hv.2 d hd h]
    grind
  · rw [iv_add, Rat.div_mul_cancel (by grind)]
    grind
/-- going on until the rows that hold with equality leave no direction; the value doesn't fall -/
theorem to_corner {n : Nat} {L : List (List Int)} (g : Nat → Rat) (H : ∀ z v, Kept n L z → Along n L z v → (∃ i, i < n ∧ v i ≠ 0) → ∃ s : Rat, (s = 1 ∨ s = -1) ∧ 0 ≤ pair n g (fun j => s * v j) ∧ ∃ e ∈ L, 0 < iv (n + 1) e (fun j => s * v j)) :
    ∀ (k : Nat) (z : Nat → Rat), L.countP (fun e => decide (iv (n + 1) e z ≠ 0)) ≤ k → Kept n L z →
    ∃ z', Kept n L z' ∧ pair n g z ≤ pair n g z' ∧ ∀ v, Along n L z' v → ∀ i, i < n → v i = 0
  | k, z, hk, hz => by
    by_cases q : ∀ v, Along n L z v → ∀ i, i < n → v i = 0
    · exact ⟨z, hz, Rat.le_refl, q⟩
    · have q : ∃ v, Along n L z v ∧ ∃ i, i < n ∧ v i ≠ 0 := Classical.byContradiction fun r => q fun v hv i hi => by
        rcases Decidable.em (v i = 0) with u | u
        · exact u
        · exact absurd ⟨v, hv, i, hi, u⟩ r
      obtain ⟨v, hv, hn⟩ := q
      obtain ⟨s, hs, hg, hp⟩ := H z v hz hv hn
      have hv' : Along n L z (fun j => s * v j) := by
        refine ⟨by show s * v n = 0; rw [hv.1]; grind, fun e he h => ?_⟩
        have := hv.2 e he h
        have e2 : iv (n + 1) e (fun j => s * v j) = s * iv (n + 1) e v := by
          unfold iv
          rw [← sm_mul]
          exact sm_congr fun j _ => by grind
        rw [e2, this]
        grind
      obtain ⟨t, t0, kz, kt, e, he, h1, h2⟩ := move hz hv' hp
      -- one row more holds with equality
      have lt : ∀ l : List (List Int), (∀ d ∈ l, iv (n + 1) d z = 0 → iv (n + 1) d (fun j => z j + t * (s * v j)) = 0) → e ∈ l →
          l.countP (fun d => decide (iv (n + 1) d (fun j => z j + t * (s * v j)) ≠ 0)) < l.countP (fun d => decide (iv (n + 1) d z ≠ 0)) := by
        intro l
        have le : ∀ l : List (List Int), (∀ d ∈ l, iv (n + 1) d z = 0 → iv (n + 1) d (fun j => z j + t * (s * v j)) = 0) →
            l.countP (fun d => decide (iv (n + 1) d (fun j => z j + t * (s * v j)) ≠ 0)) ≤ l.countP (fun d => decide (iv (n + 1) d z ≠ 0)) := by
          intro l h
          refine List.countP_mono_left fun d hd hq => ?_
          simp only [decide_eq_true_eq] at hq ⊢
          exact fun r => hq (h d hd r)
        induction l with
        | nil => intro _ h; exact absurd h List.not_mem_nil
        | cons d l ih =>
          intro h m
          have hl : ∀ d ∈ l, iv (n + 1) d z = 0 → iv (n + 1) d (fun j => z j + t * (s * v j)) = 0 := fun b hb => h b (List.mem_cons_of_mem _ hb)
          rw [List.countP_cons, List.countP_cons]
          rcases List.mem_cons.mp m with rfl | m
          · rw [if_neg (by simp [h2]), if_pos (by simp [h1])]
            have := le l hl
            omega
          · have := ih hl m
            by_cases r : iv (n + 1) d z = 0
            · rw [if_neg (by simp [h d (List.mem_cons_self ..) r]), if_neg (by simp [r])]
              omega
            · rw [if_pos (c := decide (iv (n + 1) d z ≠ 0) = true) (by simp [r])]
              split <;> omega
      have := lt L kt he
      cases k with
      | zero => omega
      | succ k =>
        obtain ⟨z', a, b, c⟩ := to_corner g H k _ (by omega) kz
        refine ⟨z', a, Rat.le_trans ?_ b, c⟩
        rw [pair_add n g z (fun j => s * v j) t]
        have := Rat.mul_nonneg t0 hg
        grind

/-! ### so many rows among them -/
theorem greedy {n : Nat} : ∀ (L E : List (List Int)) (S : MS), Rep (n + 1) E S → (∀ e ∈ L, e.length = n + 1) →
    ∃ (T : List (List Int)) (S' : MS), T.Sublist L ∧ Rep (n + 1) (T.reverse ++ E) S' ∧ ∀ e ∈ L, ∀ z : Nat → Rat, z n = 0 → (∀ r ∈ T.reverse ++ E, iv (n + 1) r z = 0) → iv (n + 1) e z = 0
  | [], E, S, R, _ => ⟨[], S, List.Sublist.refl _, R, fun e he => absurd he List.not_mem_nil⟩
  | e :: L, E, S, R, hl => by
    have he := hl e (List.mem_cons_self ..)
    have hl' : ∀ e ∈ L, e.length = n + 1 := fun q hq => hl q (List.mem_cons_of_mem _ hq)
    cases h : S.wider e with
    | some S1 =>
      obtain ⟨T, S', a, b, c⟩ := greedy L (e :: E) S1 (R.wider he h) hl'
      refine ⟨e :: T, S', a.cons_cons e, by simpa using b, fun d hd z z0 hz => ?_⟩
      have hz' : ∀ r ∈ T.reverse ++ e :: E, iv (n + 1) r z = 0 := fun r hr => hz r (by simpa using hr)
      rcases List.mem_cons.mp hd with rfl | hd
      · exact hz' _ (List.mem_append_right _ (List.mem_cons_self ..))
      · exact c d hd z z0 hz'
    | none =>
      obtain ⟨T, S', a, b, c⟩ := greedy L E S R hl'
      refine ⟨T, S', a.cons e, b, fun d hd z z0 hz => ?_⟩
      rcases List.mem_cons.mp hd with rfl | hd
      · exact R.dependent he h z z0 fun r hr => hz r (List.mem_append_right _ hr)
      · exact c d hd z z0 hz
theorem rep_free {n : Nat} {E : List (List Int)} {S : MS} (R : Rep (n + 1) E S) (h : E.length < n) : ∃ z : Nat → Rat, z n = 0 ∧ (∃ i, i < n ∧ z i ≠ 0) ∧ ∀ r ∈ E, iv (n + 1) r z = 0 := by
  have hc : S.cols.length < n := by rw [← R.count]; exact h
  have : ∃ f, f < n ∧ f ∉ S.cols := Classical.byContradiction fun q => by
    have sub : List.range n ⊆ S.cols := fun i hi => Classical.byContradiction fun u => q ⟨i, List.mem_range.mp hi, u⟩
    have := List.nodup_range.length_le_of_subset sub
    rw [List.length_range] at this
    omega
  obtain ⟨f, hf, hfc⟩ := this
  -- pivot at f, and what undoes it at the columns
  have ex : ∃ z : Nat → Rat, z n = 0 ∧ z f = (S.pivot : Rat) ∧ (∀ p ∈ S.cols.zip S.rows, z p.1 = - ((p.2.getD f 0 : Int) : Rat)) ∧ ∀ j, j ≠ f → j ∉ S.cols → z j = 0 := by
    refine ⟨fun j => if j = f then (S.pivot : Rat) else match (S.cols.zip S.rows).find? (fun p => decide (p.1 = j)) with
      | some p => - ((p.2.getD f 0 : Int) : Rat)
      | none => 0, ?_, if_pos rfl, fun p hp => ?_, fun j hj hn => ?_⟩
    · have : ∀ p ∈ S.cols.zip S.rows, p.1 ≠ n := fun p hp => by
        have := R.low _ (List.of_mem_zip (a := p.1) (b := p.2) hp).1
        omega
      show (if n = f then (S.pivot : Rat) else _) = 0
      rw [if_neg (by omega), List.find?_eq_none.mpr fun p hp => by simpa using this p hp]
    · have hm := (List.of_mem_zip (a := p.1) (b := p.2) hp).1
      show (if p.1 = f then (S.pivot : Rat) else _) = _
      rw [if_neg (fun (e : p.1 = f) => hfc (e ▸ hm))]
      have nd : ((S.cols.zip S.rows).map (·.1)).Nodup := by rw [zip_fst _ _ R.same]; exact R.nodup
      have : ∀ (l : List (Nat × List Int)), (l.map (·.1)).Nodup → p ∈ l → l.find? (fun q => decide (q.1 = p.1)) = some p := by
        intro l
        induction l with
        | nil => intro _ h; exact absurd h List.not_mem_nil
        | cons q l ih =>
          intro hn hm
          rw [List.map_cons, List.nodup_cons] at hn
          rw [List.find?_cons]
          rcases List.mem_cons.mp hm with rfl | hm
          · simp
          · have : q.1 ≠ p.1 := fun e => hn.1 (e ▸ List.mem_map_of_mem (f := (·.1)) hm)
            simp only [this, decide_false]
            exact ih hn.2 hm
      rw [this _ nd hp]
    · show (if j = f then (S.pivot : Rat) else _) = 0
      rw [if_neg hj, List.find?_eq_none.mpr fun p hp => by
        have := (List.of_mem_zip (a := p.1) (b := p.2) hp).1
        simp only [decide_eq_true_eq]
        exact fun e => hn (e ▸ this)]
  obtain ⟨z, zn, zf, zp, zo⟩ := ex
  have hpq : (S.pivot : Rat) ≠ 0 := by
    have := R.nz
    exact_mod_cast this
  refine ⟨z, zn, ⟨f, hf, by rw [zf]; exact hpq⟩, (R.ker z).mpr fun r hr => ?_⟩
  rw [← zip_snd S.cols S.rows R.same] at hr
  obtain ⟨p, hp, rfl⟩ := List.mem_map.mp hr
  have hm := (List.of_mem_zip (a := p.1) (b := p.2) hp).1
  obtain ⟨o1, o2⟩ := R.own hp
  have lowp := R.low _ hm
  have hpf : p.1 ≠ f := fun e => hfc (e ▸ hm)
  -- only p.1 and f count
  have terms : ∀ j, j < n + 1 → ((p.2.getD j 0 : Int) : Rat) * z j = (if j = p.1 then (S.pivot : Rat) * z p.1 else 0) + (if j = f then ((p.2.getD f 0 : Int) : Rat) * (S.pivot : Rat) else 0) := by
    intro j hj
    by_cases a : j = p.1
    · subst a
      rw [if_pos rfl, if_neg hpf, o1]
      grind
    · rw [if_neg a]
      by_cases b : j = f
      · subst b
        rw [if_pos rfl, zf]
        grind
      · rw [if_neg b]
        by_cases c : j ∈ S.cols
        · rw [o2 j c a]
          grind
        · rw [zo j b c]
          grind
  unfold iv
  rw [sm_congr terms, sm_add, sm_single (i := p.1) (by omega) fun j _ hj => if_neg hj, sm_single (i := f) (by omega) fun j _ hj => if_neg hj, if_pos rfl, if_pos rfl, zp p hp]
  grind
/-- rows that leave no direction: some n of them have the vector as their only solution -/
theorem only_of {n : Nat} {L : List (List Int)} (hl : ∀ e ∈ L, e.length = n + 1) {q : List Rat} (hq : q.length = n) {z : Nat → Rat} (zn : z n = 1) (zi : ∀ i, i < n → z i = q.getD i 0)
    (hz : ∀ e ∈ L, iv (n + 1) e z = 0) (hv : ∀ v : Nat → Rat, v n = 0 → (∀ e ∈ L, iv (n + 1) e v = 0) → ∀ i, i < n → v i = 0) : ∃ T : List (List Int), T.Sublist L ∧ T.length = n ∧ Only n T q := by
  obtain ⟨T, S, a, R, c⟩ := greedy L [] MS.empty (rep_empty _) hl
  rw [List.append_nil] at R
  have ge : ¬ T.reverse.length < n := fun h => by
    obtain ⟨v, v0, ⟨i, hi, hn⟩, k⟩ := rep_free R h
    exact hn (hv v v0 (fun e he => c e he v v0 (by rw [List.append_nil]; exact k)) i hi)
  have le : S.cols.length ≤ n := by
    have := R.nodup.length_le_of_subset (l₂ := List.range n) fun i hi => List.mem_range.mpr (by have := R.low i hi; omega)
    rw [List.length_range] at this
    exact this
  have hT : T.length = n := by
    have := R.count
    rw [List.length_reverse] at this ge
    omega
  obtain ⟨o, cn, ln⟩ := R.only (by rw [List.length_reverse, hT])
  have e : q = toQ (lowestPoint S.numbers) := by
    refine List.ext_getElem (by rw [toQ_length, ln, hq]; rfl) fun i i1 i2 => ?_
    have k := (o z).mp (fun r hr => hz r (a.subset (List.mem_reverse.mp hr))) i (by omega)
    rw [zn, zi i (by omega), List.getD_eq_getElem?_getD, List.getD_eq_getElem?_getD, List.getElem?_eq_getElem i1, List.getElem?_eq_getElem i2] at k
    have k3 : q[i] = (toQ (lowestPoint S.numbers))[i] * 1 := k
    grind
  refine ⟨T, a, hT, ?_⟩
  rw [e]
  refine (only_congr fun z => ?_).mp o
  constructor <;> intro h r hr <;> exact h r (by simpa using hr)

/-! ### over a program -/
/-- a vector as numbers behind which 1 stands -/
def zq (n : Nat) (q : List Rat) : Nat → Rat := fun j => if j = n then 1 else q.getD j 0
theorem zq_n (n : Nat) (q : List Rat) : zq n q n = 1 := if_pos rfl
theorem zq_i {n : Nat} (q : List Rat) {i : Nat} (h : i < n) : zq n q i = q.getD i 0 := if_neg (by omega)
theorem nsign_at {n j : Nat} (hj : j < n) (z : Nat → Rat) : iv (n + 1) (rowOf (nsign n j)) z = - z j := by
  rw [nsign_iv hj]
  congr 1
  unfold iv
  rw [sm_single (i := j) (by omega) fun k hk hn => by rw [signRow_getD hj, if_neg hn]; grind]
  rw [signRow_getD hj, if_pos rfl]
  grind
theorem kept_iff {P : Lrx6.Program} (wf : WF P) {q : List Rat} (hq : q.length = P.variables) : Kept P.variables ((Lrx6.allConstraints P).map rowOf) (zq P.variables q) ↔ feasQ P q := by
  unfold Kept feasQ
  rw [all_eq]
  constructor
  · rintro ⟨_, h⟩
    refine ⟨hq, fun a ha => ?_, fun c hc => ?_⟩
    · obtain ⟨j, hj, rfl⟩ := List.getElem_of_mem ha
      have := h (rowOf (nsign P.variables j)) (List.mem_map_of_mem (List.mem_append_right _ (List.mem_map_of_mem (List.mem_range.mpr (by omega)))))
      rw [nsign_at (by omega), zq_i _ (by omega), List.getD_eq_getElem?_getD, List.getElem?_eq_getElem hj] at this
      have this : -(q[j]) ≤ 0 := this
      grind
    · have := h (rowOf c) (List.mem_map_of_mem (List.mem_append_left _ hc))
      rw [iv_at (wf c hc) hq (zq_n _ _) (fun i hi => zq_i _ hi)] at this
      grind
  · rintro ⟨_, h1, h2⟩
    refine ⟨zq_n _ _, fun e he => ?_⟩
    obtain ⟨c, hc, rfl⟩ := List.mem_map.mp he
    rcases List.mem_append.mp hc with hc | hc
    · rw [iv_at (wf c hc) hq (zq_n _ _) (fun i hi => zq_i _ hi)]
      have := h2 c hc
      grind
    · obtain ⟨j, hj, rfl⟩ := List.mem_map.mp hc
      have hj := List.mem_range.mp hj
      rw [nsign_at hj, zq_i _ hj, List.getD_eq_getElem?_getD, List.getElem?_eq_getElem (show j < q.length by omega)]
      have := h1 q[j] (List.getElem_mem _)
      show -(q[j]) ≤ 0
      grind
/-- the numbers ahead of the last as a vector -/
def qz (n : Nat) (z : Nat → Rat) : List Rat := (List.range n).map z
theorem qz_len (n : Nat) (z : Nat → Rat) : (qz n z).length = n := by simp [qz]
theorem qz_i {n : Nat} (z : Nat → Rat) {i : Nat} (h : i < n) : (qz n z).getD i 0 = z i := getD_range_map _ _ _ _ h
theorem iv_congr {w : Nat} {e : List Int} {z v : Nat → Rat} (h : ∀ j, j < w → z j = v j) : iv w e z = iv w e v := sm_congr fun j hj => by rw [h j hj]
theorem zq_qz {n : Nat} {z : Nat → Rat} (h : z n = 1) : ∀ j, j < n + 1 → zq n (qz n z) j = z j := by
  intro j hj
  by_cases e : j = n
  · rw [e, zq_n, h]
  · rw [zq_i _ (by omega), qz_i _ (by omega)]
/-- from a feasible vector to a corner, the value not falling -/
theorem corner_from {P : Lrx6.Program} (wf : WF P) (g : Nat → Rat) (H : ∀ z v, Kept P.variables ((Lrx6.allConstraints P).map rowOf) z → Along P.variables ((Lrx6.allConstraints P).map rowOf) z v → (∃ i, i < P.variables ∧ v i ≠ 0) → ∃ s : Rat, (s = 1 ∨ s = -1) ∧ 0 ≤ pair P.variables g (fun j => s * v j) ∧ ∃ e ∈ (Lrx6.allConstraints P).map rowOf, 0 < iv (P.variables + 1) e (fun j => s * v j))
    {q : List Rat} (f : feasQ P q) : ∃ r : List Rat, r.map fr ∈ Lrx6.corners P ∧ pair P.variables g (fun j => q.getD j 0) ≤ pair P.variables g (fun j => r.getD j 0) := by
  obtain ⟨z, kz, vz, cz⟩ := to_corner g H _ (zq P.variables q) (Nat.le_refl _) ((kept_iff wf f.1).mpr f)
  have fz : feasQ P (qz P.variables z) := (kept_iff wf (qz_len _ _)).mp ⟨zq_n _ _, fun e he => by
    rw [iv_congr (zq_qz kz.1)]
    exact kz.2 e he⟩
  have wl : ∀ e ∈ (Lrx6.allConstraints P).map rowOf, e.length = P.variables + 1 := fun e he => by
    obtain ⟨c, hc, rfl⟩ := List.mem_map.mp he
    simp [rowOf, all_wf wf c hc]
  refine ⟨qz P.variables z, (spec_corners wf _).mpr ⟨_, rfl, fz, ?_⟩, ?_⟩
  · obtain ⟨T, t1, t2, t3⟩ := only_of (L := ((Lrx6.allConstraints P).map rowOf).filter fun e => decide (iv (P.variables + 1) e z = 0)) (fun e he => wl e (List.mem_filter.mp he).1) (qz_len P.variables z) kz.1 (fun i hi => (qz_i z hi).symm)
      (fun e he => by simpa using (List.mem_filter.mp he).2) (fun v v0 hv => cz v ⟨v0, fun e he h => hv e (List.mem_filter.mpr ⟨he, by simpa using h⟩)⟩)
    obtain ⟨U, u1, rfl⟩ := List.sublist_map_iff.mp (t1.trans List.filter_sublist)
    exact ⟨U, u1, by simpa using t2, t3⟩
  · have e1 : pair P.variables g (zq P.variables q) = pair P.variables g (fun j => q.getD j 0) := sm_congr fun j hj => by rw [zq_i _ hj]
    have e2 : pair P.variables g z = pair P.variables g (fun j => (qz P.variables z).getD j 0) := sm_congr fun j hj => by
      show g j * z j = g j * (qz P.variables z).getD j 0
      rw [qz_i _ hj]
    rw [← e1, ← e2]
    exact vz
/-- a program with a feasible vector has a corner -/
theorem corner_of_feasible {P : Lrx6.Program} (wf : WF P) {q : List Rat} (f : feasQ P q) : Lrx6.corners P ≠ [] := by
  obtain ⟨r, hr, _⟩ := corner_from wf (fun _ => 0) (fun z v _ _ ⟨i, hi, hn⟩ => by
    have zero : ∀ s : Rat, (0 : Rat) ≤ pair P.variables (fun _ => 0) (fun j => s * v j) := fun s => by
      have : pair P.variables (fun _ => 0) (fun j => s * v j) = 0 := sm_zero fun j _ => by grind
      rw [this]
      exact Rat.le_refl
    have mem : rowOf (nsign P.variables i) ∈ (Lrx6.allConstraints P).map rowOf := by
      rw [all_eq]
      exact List.mem_map_of_mem (List.mem_append_right _ (List.mem_map_of_mem (List.mem_range.mpr hi)))
    by_cases h : v i < 0
    · refine ⟨1, .inl rfl, zero 1, _, mem, ?_⟩
      rw [nsign_at hi]
      grind
    · refine ⟨-1, .inr rfl, zero (-1), _, mem, ?_⟩
      rw [nsign_at hi]
      grind) f
  intro e
  rw [e] at hr
  exact absurd hr List.not_mem_nil

theorem sm_sum_list (n : Nat) (q : List Rat) (h : q.length = n) : sm n (fun j => q.getD j 0) = q.sum := by
  subst h
  induction q with
  | nil => rfl
  | cons a q ih =>
    have : sm (q.length + 1) (fun j => (a :: q).getD j 0) = a + sm q.length (fun j => q.getD j 0) := by
      have key : ∀ m, sm (m + 1) (fun j => (a :: q).getD j 0) = a + sm m (fun j => q.getD j 0) := by
        intro m
        induction m with
        | zero => show 0 + a = a + 0; grind
        | succ m im =>
          show sm (m + 1) (fun j => (a :: q).getD j 0) + q.getD m 0 = a + (sm m (fun j => q.getD j 0) + q.getD m 0)
          rw [im]
          grind
      exact key q.length
    rw [List.length_cons, this, ih, List.sum_cons]
theorem vd_ones (n : Nat) (q : List Rat) (h : q.length = n) : vd (o1 n).coefficients q = sm n (fun j => q.getD j 0) := by
  rw [← sum_range_vd, sm_range, h]
  refine sm_congr fun j hj => ?_
  have : (o1 n).coefficients.getD j 0 = 1 := by
    show ((List.range n).map fun _ => (1 : Int)).getD j 0 = 1
    exact getD_range_map _ _ _ _ hj
  rw [this]
  grind
theorem vd_pair {n : Nat} {a : List Int} {q : List Rat} (h : q.length = n) : vd a q = pair n (fun j => ((a.getD j 0 : Int) : Rat)) (fun j => q.getD j 0) := by
  rw [← sum_range_vd, sm_range, h]
  rfl
/-- a direction that improves: a ray that improves -/
theorem ray_of_direction {P : Lrx6.Program} (wf : WF P) {d : List Rat} (hd : feasQ (homP P) d) (hv : 0 < vd P.objective d) : ∃ r : List Rat, r.map fr ∈ Lrx6.rays P ∧ 0 < vd P.objective r := by
  have ld : d.length = P.variables := hd.1
  have s0 : 0 < sm P.variables (fun j => d.getD j 0) := by
    have nn : ∀ j, j < P.variables → 0 ≤ d.getD j 0 := fun j hj => by
      rw [List.getD_eq_getElem?_getD, List.getElem?_eq_getElem (show j < d.length by omega)]
      exact hd.2.1 _ (List.getElem_mem _)
    have pos : ∀ m, m ≤ P.variables → (0 : Rat) ≤ sm m (fun j => d.getD j 0) ∧ (sm m (fun j => d.getD j 0) = 0 → ∀ j, j < m → d.getD j 0 = 0) := by
      intro m
      induction m with
      | zero => intro _; exact ⟨Rat.le_refl, fun _ j hj => absurd hj (by omega)⟩
      | succ m ih =>
        intro hm
        obtain ⟨a, b⟩ := ih (by omega)
        have c := nn m (by omega)
        refine ⟨Rat.add_nonneg a c, fun e j hj => ?_⟩
        have e : sm m (fun j => d.getD j 0) + d.getD m 0 = 0 := e
        have z1 : sm m (fun j => d.getD j 0) = 0 := by grind
        by_cases q : j = m
        · subst q
          grind
        · exact b z1 j (by omega)
    obtain ⟨a, b⟩ := pos P.variables (Nat.le_refl _)
    rcases Decidable.em (0 < sm P.variables (fun j => d.getD j 0)) with h | h
    · exact h
    · have z := b (by grind)
      have : vd P.objective d = 0 := by
        rw [vd_pair ld]
        exact sm_zero fun j hj => by
          show ((P.objective.getD j 0 : Int) : Rat) * d.getD j 0 = 0
          rw [z j hj]; grind
      rw [this] at hv
      exact absurd hv Rat.lt_irrefl
  generalize hs : sm P.variables (fun j => d.getD j 0) = s at s0
  -- the direction, of the sum 1
  have sc : ∀ a : List Int, vd a (d.map fun x => s⁻¹ * x) = s⁻¹ * vd a d := by
    intro a
    have key : ∀ (a : List Int) (d : List Rat), vd a (d.map fun x => s⁻¹ * x) = s⁻¹ * vd a d := by
      intro a
      induction a with
      | nil => intro d; simp
      | cons c a ih =>
        intro d
        cases d with
        | nil => simp
        | cons x d =>
          rw [List.map_cons, vd_cons, vd_cons, ih]
          grind
    exact key a d
  have i0 : 0 < s⁻¹ := Rat.inv_pos.mpr s0
  have f : feasQ (coneP P) (d.map fun x => s⁻¹ * x) := by
    refine (feas_cone P _).mpr ⟨⟨by rw [List.length_map]; exact ld, fun a ha => ?_, fun c hc => ?_⟩, ?_⟩
    · obtain ⟨x, hx, rfl⟩ := List.mem_map.mp ha
      exact Rat.mul_nonneg (Rat.le_of_lt i0) (hd.2.1 x hx)
    · rw [sc]
      have := hd.2.2 c hc
      obtain ⟨k, hk, rfl⟩ := List.mem_map.mp (show c ∈ P.constraints.map hom from hc)
      have z : ((hom k).bound : Rat) = 0 := rfl
      rw [z] at this ⊢
      have := Rat.mul_nonneg (Rat.le_of_lt i0) (show 0 ≤ -(vd (hom k).coefficients d) by grind)
      grind
    · rw [sc, vd_ones _ _ ld, hs]
      exact Rat.inv_mul_cancel s (by grind)
  have HH : ∀ z v, Kept P.variables ((Lrx6.allConstraints (coneP P)).map rowOf) z → Along P.variables ((Lrx6.allConstraints (coneP P)).map rowOf) z v → (∃ i, i < P.variables ∧ v i ≠ 0) → ∃ s : Rat, (s = 1 ∨ s = -1) ∧ 0 ≤ pair P.variables (fun j => ((P.objective.getD j 0 : Int) : Rat)) (fun j => s * v j) ∧ ∃ e ∈ (Lrx6.allConstraints (coneP P)).map rowOf, 0 < iv (P.variables + 1) e (fun j => s * v j) := fun z v kz av ⟨i, hi, hn⟩ => by
    -- the sum's row holds with equality, so the direction has the sum 0
    have m1 : rowOf (o1 P.variables) ∈ (Lrx6.allConstraints (coneP P)).map rowOf := List.mem_map_of_mem (List.mem_append_left _ (List.mem_append_right _ (List.mem_cons_self ..)))
    have m2 : rowOf (o2 P.variables) ∈ (Lrx6.allConstraints (coneP P)).map rowOf := List.mem_map_of_mem (List.mem_append_left _ (List.mem_append_right _ (List.mem_cons_of_mem _ (List.mem_singleton.mpr rfl))))
    have t1 := kz.2 _ m1
    have t2 := kz.2 _ m2
    rw [two_iv] at t2
    rw [one_row] at t1
    have t : iv (P.variables + 1) (rowOf (o1 P.variables)) z = 0 := by rw [one_row]; grind
    have sv := av.2 _ m1 t
    have sv0 : sm P.variables (fun j => v j) = 0 := by
      have e : iv (P.variables + 1) (rowOf (o1 P.variables)) v = sm P.variables (fun j => v j) + (((rowOf (o1 P.variables)).getD P.variables 0 : Int) : Rat) * v P.variables := by
        show sm P.variables _ + _ = _
        congr 1
        refine sm_congr fun j hj => ?_
        have : (rowOf (o1 P.variables)).getD j 0 = 1 := by
          rw [rowOf_getD (by simp [o1]; exact hj)]
          show ((List.range P.variables).map fun _ => (1 : Int)).getD j 0 = 1
          exact getD_range_map _ _ _ _ hj
        rw [this]
        grind
      rw [e, av.1] at sv
      grind
    -- both ways some place falls
    have falls : ∀ s : Rat, (s = 1 ∨ s = -1) → ∃ e ∈ (Lrx6.allConstraints (coneP P)).map rowOf, 0 < iv (P.variables + 1) e (fun j => s * v j) := by
      intro s hs'
      have ex : ∃ j, j < P.variables ∧ s * v j < 0 := Classical.byContradiction fun q => by
        have nn : ∀ j, j < P.variables → 0 ≤ s * v j := fun j hj => by
          rcases Decidable.em (0 ≤ s * v j) with h | h
          · exact h
          · exact absurd ⟨j, hj, by grind⟩ q
        have tot : sm P.variables (fun j => s * v j) = 0 := by rw [sm_mul, sv0]; grind
        have pos : ∀ m, m ≤ P.variables → (0 : Rat) ≤ sm m (fun j => s * v j) ∧ (sm m (fun j => s * v j) = 0 → ∀ j, j < m → s * v j = 0) := by
          intro m
          induction m with
          | zero => intro _; exact ⟨Rat.le_refl, fun _ j hj => absurd hj (by omega)⟩
          | succ m ih =>
            intro hm
            obtain ⟨a, b⟩ := ih (by omega)
            have c := nn m (by omega)
            refine ⟨Rat.add_nonneg a c, fun e j hj => ?_⟩
            have e : sm m (fun j => s * v j) + s * v m = 0 := e
            have z1 : sm m (fun j => s * v j) = 0 := by grind
            by_cases q : j = m
            · subst q
              grind
            · exact b z1 j (by omega)
        have := (pos P.variables (Nat.le_refl _)).2 tot i hi
        rcases hs' with rfl | rfl <;> grind
      obtain ⟨j, hj, hl⟩ := ex
      refine ⟨rowOf (nsign P.variables j), ?_, ?_⟩
      · rw [all_eq]
        exact List.mem_map_of_mem (List.mem_append_right _ (List.mem_map_of_mem (List.mem_range.mpr hj)))
      · rw [nsign_at hj]
        grind
    by_cases h : 0 ≤ pair P.variables (fun j => ((P.objective.getD j 0 : Int) : Rat)) (fun j => 1 * v j)
    · exact ⟨1, .inl rfl, h, falls 1 (.inl rfl)⟩
    · refine ⟨-1, .inr rfl, ?_, falls (-1) (.inr rfl)⟩
      have e : ∀ s : Rat, pair P.variables (fun j => ((P.objective.getD j 0 : Int) : Rat)) (fun j => s * v j) = s * pair P.variables (fun j => ((P.objective.getD j 0 : Int) : Rat)) v := fun s => by
        unfold pair
        rw [← sm_mul]
        exact sm_congr fun j _ => by grind
      rw [e] at h ⊢
      grind
  obtain ⟨r, hr, hg⟩ := corner_from (cone_wf wf) (fun j => ((P.objective.getD j 0 : Int) : Rat)) HH f
  refine ⟨r, by rw [rays_eq]; exact hr, ?_⟩
  have lr : r.length = P.variables := by
    obtain ⟨q, e, fq, _⟩ := (spec_corners (cone_wf wf) _).mp hr
    rw [fr_map_inj e]
    exact fq.1
  have hn' : (coneP P).variables = P.variables := rfl
  rw [hn', ← vd_pair (by rw [List.length_map]; exact ld), ← vd_pair lr, sc] at hg
  have := Rat.mul_pos i0 hv
  grind

/-- without an improving ray the dual program has a feasible vector -/
theorem dual_feasible {P : Lrx6.Program} (wf : WF P) (h : (Lrx6.rays P).any (fun d => Lrx1.lt Lrx1.zero (Lrx6.value P d)) = false) : ∃ y : List Rat, feasQ (Lrx6.dual P) y := by
  have no : ∀ d : List Rat, feasQ (homP P) d → ¬ 0 < vd P.objective d := fun d hd hv => by
    obtain ⟨r, hr, hp⟩ := ray_of_direction wf hd hv
    have : (Lrx6.rays P).any (fun d => Lrx1.lt Lrx1.zero (Lrx6.value P d)) = true := List.any_eq_true.mpr ⟨_, hr, by rw [value_fr, zero_fr, lt_fr]; simpa using hp⟩
    rw [h] at this
    cases this
  let rowsF : List (Nat → Rat) := P.constraints.map fun c j => ((c.coefficients.getD j 0 : Int) : Rat)
  let signF : List (Nat → Rat) := (List.range P.variables).map fun i j => if j = i then -1 else 0
  obtain ⟨us, l, p, e⟩ := farkas P.variables (rowsF ++ signF) (fun j => ((P.objective.getD j 0 : Int) : Rat)) fun x hx => by
    have fd : feasQ (homP P) (qz P.variables x) := by
      refine ⟨qz_len _ _, fun a ha => ?_, fun c hc => ?_⟩
      · obtain ⟨i, hi, rfl⟩ := List.mem_map.mp ha
        have hi := List.mem_range.mp hi
        have := hx _ (List.mem_append_right _ (List.mem_map_of_mem (f := fun (i j : Nat) => if j = i then (-1 : Rat) else 0) (List.mem_range.mpr hi)))
        have e : pair P.variables (fun j => if j = i then (-1 : Rat) else 0) x = - x i := by
          unfold pair
          rw [sm_single (i := i) hi fun k _ hk => by
            show (if k = i then (-1 : Rat) else 0) * x k = 0
            rw [if_neg hk]; grind]
          show (if i = i then (-1 : Rat) else 0) * x i = _
          rw [if_pos rfl]
          grind
        rw [e] at this
        grind
      · obtain ⟨k, hk, rfl⟩ := List.mem_map.mp (show c ∈ P.constraints.map hom from hc)
        have := hx _ (List.mem_append_left _ (List.mem_map_of_mem (f := fun (c : Constraint) (j : Nat) => ((c.coefficients.getD j 0 : Int) : Rat)) hk))
        rw [vd_pair (qz_len _ _)]
        have e : pair P.variables (fun j => (((hom k).coefficients.getD j 0 : Int) : Rat)) (fun j => (qz P.variables x).getD j 0) = pair P.variables (fun j => ((k.coefficients.getD j 0 : Int) : Rat)) x := sm_congr fun j hj => by
          show (((hom k).coefficients.getD j 0 : Int) : Rat) * (qz P.variables x).getD j 0 = _
          rw [qz_i _ hj]; rfl
        rw [e]
        exact this
    have := no _ fd
    rw [vd_pair (qz_len _ _)] at this
    have e : pair P.variables (fun j => ((P.objective.getD j 0 : Int) : Rat)) (fun j => (qz P.variables x).getD j 0) = pair P.variables (fun j => ((P.objective.getD j 0 : Int) : Rat)) x := sm_congr fun j hj => by
      show ((P.objective.getD j 0 : Int) : Rat) * (qz P.variables x).getD j 0 = _
      rw [qz_i _ hj]
    rw [e] at this
    grind
  -- the multipliers of the constraints
  rw [List.length_append, List.length_map, List.length_map, List.length_range] at l
  have cut : ∀ (bs cs : List (Nat → Rat)) (us : List Rat) (j : Nat), bs.length ≤ us.length → comb us (bs ++ cs) j = comb (us.take bs.length) bs j + comb (us.drop bs.length) cs j := by
    intro bs
    induction bs with
    | nil => intro cs us j _; show _ = 0 + _; rw [Rat.zero_add]; rfl
    | cons b bs ih =>
      intro cs us j hl
      cases us with
      | nil => simp at hl
      | cons u us =>
        show u * b j + comb us (bs ++ cs) j = u * b j + comb (us.take bs.length) bs j + comb (us.drop bs.length) cs j
        rw [ih cs us j (by simpa using hl)]
        grind
  have sgn : ∀ (us : List Rat), (∀ u ∈ us, 0 ≤ u) → ∀ (L : List Nat) (j : Nat), comb us (L.map fun i j => if j = i then (-1 : Rat) else 0) j ≤ 0 := by
    intro us
    induction us with
    | nil => intro _ L j; cases L <;> exact Rat.le_refl
    | cons u us ih =>
      intro hu L j
      cases L with
      | nil => exact Rat.le_refl
      | cons i L =>
        have a := ih (fun v hv => hu v (List.mem_cons_of_mem _ hv)) L j
        have b := hu u (List.mem_cons_self ..)
        show u * (if j = i then (-1 : Rat) else 0) + comb us _ j ≤ 0
        split <;> grind
  refine ⟨us.take P.constraints.length, ⟨?_, fun a ha => p a (List.mem_of_mem_take ha), fun c hc => ?_⟩⟩
  · rw [List.length_take]
    show min _ _ = P.constraints.length
    omega
  · obtain ⟨j, hj, rfl⟩ := List.mem_map.mp (show c ∈ (List.range P.variables).map _ from hc)
    have hj := List.mem_range.mp hj
    have ej := e j hj
    rw [cut rowsF signF us j (by simp [rowsF]; omega)] at ej
    have s0 := sgn (us.drop rowsF.length) (fun u hu => p u (List.mem_of_mem_drop hu)) (List.range P.variables) j
    have v : ∀ (us : List Rat) (cs : List Constraint), vd (cs.map fun c => -(c.coefficients.getD j 0)) us = - comb us (cs.map fun c j => ((c.coefficients.getD j 0 : Int) : Rat)) j := by
      intro us
      induction us with
      | nil => intro cs; cases cs <;> simp [comb]
      | cons u us ih =>
        intro cs
        cases cs with
        | nil => simp [comb]
        | cons c cs =>
          rw [List.map_cons, vd_cons, ih cs]
          show _ = -(u * ((c.coefficients.getD j 0 : Int) : Rat) + comb us _ j)
          rw [Rat.intCast_neg]
          grind
    show vd (P.constraints.map fun c => -(c.coefficients.getD j 0)) (us.take P.constraints.length) ≤ ((-(P.objective.getD j 0) : Int) : Rat)
    rw [v, Rat.intCast_neg]
    have rl : rowsF.length = P.constraints.length := List.length_map _
    rw [rl] at ej s0
    have s0 : comb (us.drop P.constraints.length) signF j ≤ 0 := s0
    have : comb (us.take P.constraints.length) (P.constraints.map fun c j => ((c.coefficients.getD j 0 : Int) : Rat)) j = comb (us.take P.constraints.length) rowsF j := rfl
    rw [this]
    grind
theorem dual_corners {P : Lrx6.Program} (wf : WF P) (h : Lrx6.status P = 0) : Lrx6.corners (Lrx6.dual P) ≠ [] := by
  unfold Lrx6.status at h
  split at h
  · cases h
  · split at h
    · cases h
    · next q =>
      obtain ⟨y, hy⟩ := dual_feasible wf (by simpa using q)
      exact corner_of_feasible (dual_wf P) hy
end CB

/- CbStep -/
/-! The program's operations as one plain step; it answers what the specification's step answers. -/
namespace CB
open Lrx1 (Fraction)
open Lrx6 (Constraint)

structure MSt where
  prog : Option MP
  cyc : Option MC

def isCoefM (x : Int) : Bool := decide ((if x < 0 then -x else x) ≤ 1000)
def areCoefM (l : List Int) (w : Nat) : Bool := decide (l.length = w) && l.all isCoefM
def isDemM (d : Int) : Bool := decide (1 ≤ d) && decide (d ≤ 1000)
def areDemM (l : List Int) : Bool := if ¬ (1 ≤ l.length ∧ l.length ≤ 8) then false else l.all isDemM
def isCycM (t c : Int) (d : List Int) : Bool := if ¬ (0 ≤ t ∧ t ≤ 10000) then false else if ¬ (1 ≤ c ∧ c ≤ 40) then false else areDemM d

def createM (s : MSt) (w : Int) : MSt × List Int :=
  if ¬ (1 ≤ w ∧ w ≤ 5) then (s, [-22]) else (⟨some ⟨w.toNat, [], List.replicate w.toNat 0⟩, none⟩, [0])
def addM (s : MSt) (M : MP) (b : Int) (cs : List Int) : MSt × List Int :=
  if !isCoefM b || !areCoefM cs M.width then (s, [-22])
  else if M.rows.length = 6 then (s, [-28]) else (⟨some ⟨M.width, M.rows ++ [cs ++ [-b]], M.goal⟩, s.cyc⟩, [(M.rows.length : Int)])
def remM (s : MSt) (M : MP) (k : Int) : MSt × List Int :=
  if k ≥ (M.rows.length : Int) then (s, [-2])
  else (⟨some ⟨M.width, M.rows.take k.toNat ++ M.rows.drop (k.toNat + 1), M.goal⟩, s.cyc⟩, [((M.rows.take k.toNat ++ M.rows.drop (k.toNat + 1)).length : Int)])
def objM (s : MSt) (M : MP) (cs : List Int) : MSt × List Int :=
  if !areCoefM cs M.width then (s, [-22]) else (⟨some ⟨M.width, M.rows, cs⟩, s.cyc⟩, [0])
def cycM (s : MSt) (t c : Int) (d : List Int) : MSt × List Int :=
  if !isCycM t c d then (s, [-22]) else (⟨s.prog, some ⟨t, c, d⟩⟩, [0])
def optimumA (M : MP) : List Int := if statusM M ≠ 0 then [-33] else [0] ++ valueOf M.goal (bestOf (cornersM M) M.goal) ++ fractionsOf (bestOf (cornersM M) M.goal)
def multipliersA (M : MP) : List Int := if statusM M ≠ 0 then [-33] else [((dualM M).width : Int)] ++ fractionsOf (bestOf (cornersM (dualM M)) (dualM M).goal)
def refutationA (M : MP) : List Int := if (improvingM (dualM M)).length = 0 then [-33] else [((dualM M).width : Int)] ++ fractionsOf (firstOf (improvingM (dualM M)))
def rayA (M : MP) : List Int := if statusM M ≠ 2 then [-33] else [(M.width : Int)] ++ fractionsOf (bestOf (improvingM M) M.goal)
def isFeasA (M : MP) (nums dens : List Int) : List Int := if !isVecM nums dens M.width then [-22] else [if keepM M.rows (pointOf nums dens) then 1 else 0]
def slackA (M : MP) (k : Int) (nums dens : List Int) : List Int :=
  if k ≥ (M.rows.length : Int) then [-2] else if !isVecM nums dens M.width then [-22]
  else [0] ++ lowest (- idot (M.rows.getD k.toNat []) (pointOf nums dens)) ((pointOf nums dens).getLastD 0)
def checkBoundA (M : MP) (nums dens : List Int) : List Int :=
  if !isVecM nums dens (dualM M).width then [-22] else if !keepM (dualM M).rows (pointOf nums dens) then [-33] else [0] ++ provenM M (pointOf nums dens)
def checkRefA (M : MP) (nums dens : List Int) : List Int :=
  if !isVecM nums dens (dualM M).width then [-22] else [if isImpM (dualM M) (pointOf nums dens) then 1 else 0]
def checkRayA (M : MP) (nums dens : List Int) : List Int :=
  if !isVecM nums dens M.width then [-22] else [if isImpM M (pointOf nums dens) then 1 else 0]
def checkOptA (M : MP) (nums dens dn dd : List Int) : List Int :=
  if !isVecM nums dens M.width || !isVecM dn dd (dualM M).width then [-22]
  else if !keepM M.rows (pointOf nums dens) || !keepM (dualM M).rows (pointOf dn dd) then [0]
  else [if valueOf M.goal (pointOf nums dens) = provenM M (pointOf dn dd) then 1 else 0]
def cycA (f : MC → List Int) : Option MC → List Int
  | none => [-6]
  | some c => f c
def asymA (cy : Option MC) : List Int := cycA (fun c => [0] ++ asymM c) cy
def balA (cy : Option MC) : List Int := cycA (fun c => [0] ++ balM c) cy
def exactA (cy : Option MC) : List Int := cycA (fun c => [0] ++ (exactM c c.customers.toNat).getLastD []) cy
def satA (cy : Option MC) : List Int := cycA (fun c => [0] ++ satM c) cy
def curveA (most : Int) (cy : Option MC) : List Int := cycA (fun c => if ¬ (0 ≤ most ∧ most ≤ 12) then [-22] else [((exactM c most.toNat).length : Int)] ++ (exactM c most.toNat).flatMap id) cy
def summaryA (M : MP) (cy : Option MC) : List Int := [(M.width : Int), (M.rows.length : Int), match cy with | none => 0 | some c => (c.demands.length : Int)]

/-- an operation where there is a program: its number, its whole numbers, its rows -/
def opM (p : Int) (s : MSt) (M : MP) (xs : List Int) (rs : List (List Int)) : MSt × List Int :=
  if p = 0 then createM s (xs.getD 0 0)
  else if p = 1 then addM s M (xs.getD 0 0) (rs.getD 0 [])
  else if p = 2 then remM s M (xs.getD 0 0)
  else if p = 3 then objM s M (rs.getD 0 [])
  else if p = 4 then cycM s (xs.getD 0 0) (xs.getD 1 0) (rs.getD 0 [])
  else if p = 5 then (s, [statusM M])
  else if p = 6 then (s, optimumA M)
  else if p = 7 then (s, multipliersA M)
  else if p = 8 then (s, refutationA M)
  else if p = 9 then (s, rayA M)
  else if p = 10 then (s, [((cornersM M).length : Int)])
  else if p = 11 then (s, isFeasA M (rs.getD 0 []) (rs.getD 1 []))
  else if p = 12 then (s, slackA M (xs.getD 0 0) (rs.getD 0 []) (rs.getD 1 []))
  else if p = 13 then (s, checkBoundA M (rs.getD 0 []) (rs.getD 1 []))
  else if p = 14 then (s, checkRefA M (rs.getD 0 []) (rs.getD 1 []))
  else if p = 15 then (s, checkRayA M (rs.getD 0 []) (rs.getD 1 []))
  else if p = 16 then (s, checkOptA M (rs.getD 0 []) (rs.getD 1 []) (rs.getD 2 []) (rs.getD 3 []))
  else if p = 17 then (s, asymA s.cyc)
  else if p = 18 then (s, balA s.cyc)
  else if p = 19 then (s, exactA s.cyc)
  else if p = 20 then (s, satA s.cyc)
  else if p = 21 then (s, curveA (xs.getD 0 0) s.cyc)
  else (s, summaryA M s.cyc)
def stepM (s : MSt) (p : Int) (xs : List Int) (rs : List (List Int)) : MSt × List Int := match s.prog with
  | none => if p = 0 then createM s (xs.getD 0 0) else (s, [-11])
  | some M => opM p s M xs rs

/-! ### both hold the same -/
def Small (a : Int) : Prop := -1000 ≤ a ∧ a ≤ 1000
structure OkP (P : Lrx6.Program) : Prop where
  wf : WF P
  goal : P.objective.length = P.variables
  lo : 1 ≤ P.variables
  hi : P.variables ≤ 5
  few : P.constraints.length ≤ 6
  small : ∀ c ∈ P.constraints, Small c.bound ∧ ∀ a ∈ c.coefficients, Small a
  smallG : ∀ a ∈ P.objective, Small a
def OkY (c : Lrx6.Cycle) : Prop := c.demands = [] ∨ (OkC c ∧ c.think ≤ 10000 ∧ c.customers ≤ 40 ∧ c.demands.length ≤ 8 ∧ ∀ d ∈ c.demands, d ≤ 1000)
def Sim : Lrx6.State → MSt → Prop
  | none, m => m.prog = none ∧ m.cyc = none
  | some md, m => m.prog = some (mpOf md.program) ∧ m.cyc = (if md.cycle.demands = [] then none else some (mcOf md.cycle)) ∧ OkP md.program ∧ OkY md.cycle
/-- the specification's answer, as one list -/
def flat (r : Lrx6.Result) : List Int := r.num :: r.nums

section
variable {md : Lrx6.Model} {m : MSt}
theorem coef_is {n : Nat} {l : List Int} : Lrx6.isCoefficients n l = areCoefM l n := by
  unfold Lrx6.isCoefficients areCoefM
  congr 1
  have : (fun a => decide (-Lrx6.maxCoefficient ≤ a ∧ a ≤ Lrx6.maxCoefficient)) = isCoefM := by
    funext a
    unfold isCoefM
    refine decide_eq_decide.mpr ?_
    show (-1000 ≤ a ∧ a ≤ 1000) ↔ _
    split <;> omega
  rw [this]
theorem coef_small {n : Nat} {l : List Int} (h : areCoefM l n = true) : l.length = n ∧ ∀ a ∈ l, Small a := by
  unfold areCoefM at h
  rw [Bool.and_eq_true, decide_eq_true_eq, List.all_eq_true] at h
  refine ⟨h.1, fun a ha => ?_⟩
  have := h.2 a ha
  unfold isCoefM at this
  rw [decide_eq_true_eq] at this
  unfold Small
  split at this <;> omega
theorem isCoef_iff (b : Int) : isCoefM b = true ↔ Small b := by
  unfold isCoefM Small
  rw [decide_eq_true_eq]
  split <;> omega
theorem Sim.wf (h : Sim (some md) m) : WF md.program := h.2.2.1.wf
/-- the program that simulates: one with the same program, or another -/
theorem sim_prog {P : Lrx6.Program} (h : Sim (some md) m) (o : OkP P) : Sim (some { md with program := P }) ⟨some (mpOf P), m.cyc⟩ := ⟨rfl, h.2.1, o, h.2.2.2⟩

theorem sim_create {s : Lrx6.State} {m : MSt} (h : Sim s m) (n : Nat) : flat (Lrx6.step s (.create n)).2 = (createM m (n : Int)).2 ∧ Sim (Lrx6.step s (.create n)).1 (createM m (n : Int)).1 := by
  show flat (if n = 0 ∨ Lrx6.maxVariables < n then (s, Lrx6.error (-22)) else (some ⟨⟨n, [], List.replicate n 0⟩, ⟨[], 0, 0⟩⟩, Lrx6.number 0)).2 = _ ∧ Sim (if n = 0 ∨ Lrx6.maxVariables < n then (s, Lrx6.error (-22)) else (some ⟨⟨n, [], List.replicate n 0⟩, ⟨[], 0, 0⟩⟩, Lrx6.number 0)).1 _
  unfold createM Lrx6.maxVariables
  by_cases c : n = 0 ∨ 5 < n
  · rw [if_pos c, if_pos (by omega)]
    exact ⟨rfl, h⟩
  · rw [if_neg c, if_neg (by omega)]
    refine ⟨rfl, ?_⟩
    refine ⟨rfl, rfl, ⟨fun c hc => absurd hc List.not_mem_nil, by simp, by show 1 ≤ n; omega, by show n ≤ 5; omega, by simp, fun c hc => absurd hc List.not_mem_nil, fun a ha => ?_⟩, .inl rfl⟩
    have := List.eq_of_mem_replicate ha
    unfold Small
    omega
theorem sim_add (h : Sim (some md) m) (b : Int) (cs : List Int) : flat (Lrx6.step (some md) (.addConstraint b cs)).2 = (addM m (mpOf md.program) b cs).2 ∧ Sim (Lrx6.step (some md) (.addConstraint b cs)).1 (addM m (mpOf md.program) b cs).1 := by
  obtain ⟨h1, h2, h3, h4⟩ := h
  have hl : (mpOf md.program).rows.length = md.program.constraints.length := by simp [mpOf]
  unfold addM
  simp only [Lrx6.step]
  rw [hl, coef_is]
  by_cases c1 : areCoefM cs md.program.variables = false ∨ b < -Lrx6.maxCoefficient ∨ Lrx6.maxCoefficient < b
  · rw [if_pos c1, if_pos]
    · exact ⟨rfl, h1, h2, h3, h4⟩
    · rw [Bool.or_eq_true, Bool.not_eq_true', Bool.not_eq_true']
      rcases c1 with c1 | c1
      · exact .inr c1
      · left
        refine Bool.eq_false_iff.mpr fun q => ?_
        have := (isCoef_iff b).mp q
        unfold Small at this
        unfold Lrx6.maxCoefficient at c1
        omega
  · have c2 : ¬ ((!isCoefM b || !areCoefM cs (mpOf md.program).width) = true) := by
      rw [Bool.or_eq_true, Bool.not_eq_true', Bool.not_eq_true']
      rintro (q | q)
      · refine c1 (.inr ?_)
        have : ¬ Small b := fun k => by
          rw [(isCoef_iff b).mpr k] at q
          cases q
        unfold Small at this
        unfold Lrx6.maxCoefficient
        omega
      · exact c1 (.inl q)
    rw [if_neg c1, if_neg c2]
    have k1 : areCoefM cs md.program.variables = true := by
      cases q : areCoefM cs md.program.variables with
      | true => rfl
      | false => exact absurd (.inl q) c1
    obtain ⟨k2, k3⟩ := coef_small k1
    have few := h3.few
    by_cases c3 : md.program.constraints.length = 6
    · rw [if_pos c3, if_pos (by unfold Lrx6.maxConstraints; omega)]
      exact ⟨rfl, h1, h2, h3, h4⟩
    · rw [if_neg c3, if_neg (by unfold Lrx6.maxConstraints; omega)]
      refine ⟨rfl, ?_⟩
      have o : OkP { md.program with constraints := md.program.constraints ++ [⟨cs, b⟩] } := by
        refine ⟨fun c hc => ?_, h3.goal, h3.lo, h3.hi, by simp; omega, fun c hc => ?_, h3.smallG⟩
        · rcases List.mem_append.mp hc with q | q
          · exact h3.wf c q
          · rw [List.mem_singleton] at q
            subst q
            exact k2
        · rcases List.mem_append.mp hc with q | q
          · exact h3.small c q
          · rw [List.mem_singleton] at q
            subst q
            refine ⟨?_, k3⟩
            unfold Small
            unfold Lrx6.maxCoefficient at c1
            show -1000 ≤ b ∧ b ≤ 1000
            omega
      have := sim_prog (P := { md.program with constraints := md.program.constraints ++ [⟨cs, b⟩] }) ⟨h1, h2, h3, h4⟩ o
      have e : mpOf { md.program with constraints := md.program.constraints ++ [⟨cs, b⟩] } = ⟨(mpOf md.program).width, (mpOf md.program).rows ++ [cs ++ [-b]], (mpOf md.program).goal⟩ := by
        simp [mpOf, rowOf]
      rw [e] at this
      exact this
theorem sim_remove (h : Sim (some md) m) (k : Nat) : flat (Lrx6.step (some md) (.removeConstraint k)).2 = (remM m (mpOf md.program) (k : Int)).2 ∧ Sim (Lrx6.step (some md) (.removeConstraint k)).1 (remM m (mpOf md.program) (k : Int)).1 := by
  obtain ⟨h1, h2, h3, h4⟩ := h
  have hl : (mpOf md.program).rows.length = md.program.constraints.length := by simp [mpOf]
  unfold remM
  simp only [Lrx6.step]
  by_cases c : md.program.constraints.length ≤ k
  · rw [if_pos c, if_pos (by omega)]
    exact ⟨rfl, h1, h2, h3, h4⟩
  · rw [if_neg c, if_neg (by omega)]
    have e : (mpOf { md.program with constraints := md.program.constraints.eraseIdx k }).rows = (mpOf md.program).rows.take k ++ (mpOf md.program).rows.drop (k + 1) := by
      show List.map rowOf (md.program.constraints.eraseIdx k) = List.take k (md.program.constraints.map rowOf) ++ List.drop (k + 1) (md.program.constraints.map rowOf)
      rw [List.eraseIdx_eq_take_drop_succ, List.map_append, List.map_take, List.map_drop]
    have tn : ((k : Int)).toNat = k := by omega
    rw [tn, ← e]
    refine ⟨?_, ?_⟩
    · show [((md.program.constraints.eraseIdx k).length : Int)] = [((mpOf { md.program with constraints := md.program.constraints.eraseIdx k }).rows.length : Int)]
      simp [mpOf]
    · have sub := List.eraseIdx_sublist md.program.constraints k
      have o : OkP { md.program with constraints := md.program.constraints.eraseIdx k } :=
        ⟨fun c hc => h3.wf c (sub.subset hc), h3.goal, h3.lo, h3.hi, Nat.le_trans sub.length_le h3.few, fun c hc => h3.small c (sub.subset hc), h3.smallG⟩
      exact sim_prog (P := { md.program with constraints := md.program.constraints.eraseIdx k }) ⟨h1, h2, h3, h4⟩ o
theorem sim_objective (h : Sim (some md) m) (cs : List Int) : flat (Lrx6.step (some md) (.setObjective cs)).2 = (objM m (mpOf md.program) cs).2 ∧ Sim (Lrx6.step (some md) (.setObjective cs)).1 (objM m (mpOf md.program) cs).1 := by
  obtain ⟨h1, h2, h3, h4⟩ := h
  unfold objM
  simp only [Lrx6.step]
  rw [coef_is]
  have hw : (mpOf md.program).width = md.program.variables := rfl
  rw [hw]
  cases q : areCoefM cs md.program.variables with
  | false => exact ⟨rfl, h1, h2, h3, h4⟩
  | true =>
    refine ⟨rfl, ?_⟩
    obtain ⟨k2, k3⟩ := coef_small q
    exact sim_prog (P := { md.program with objective := cs }) ⟨h1, h2, h3, h4⟩ ⟨h3.wf, k2, h3.lo, h3.hi, h3.few, h3.small, k3⟩
theorem sim_cycle (h : Sim (some md) m) (t c : Nat) (d : List Nat) : flat (Lrx6.step (some md) (.setCycle t c d)).2 = (cycM m (t : Int) (c : Int) (d.map fun (x : Nat) => (x : Int))).2 ∧ Sim (Lrx6.step (some md) (.setCycle t c d)).1 (cycM m (t : Int) (c : Int) (d.map fun (x : Nat) => (x : Int))).1 := by
  obtain ⟨h1, h2, h3, h4⟩ := h
  unfold cycM
  simp only [Lrx6.step]
  have e : isCycM (t : Int) (c : Int) (d.map fun (x : Nat) => (x : Int)) = !(decide (10000 < t ∨ c = 0 ∨ 40 < c ∨ d = [] ∨ 8 < d.length ∨ (d.all fun d => decide (1 ≤ d ∧ d ≤ 1000)) = false)) := by
    unfold isCycM areDemM
    rw [List.length_map, List.all_map]
    have ea : d.all (isDemM ∘ fun (x : Nat) => (x : Int)) = d.all fun d => decide (1 ≤ d ∧ d ≤ 1000) := by
      congr 1
      funext x
      show isDemM (x : Int) = _
      unfold isDemM
      rw [Bool.eq_iff_iff, Bool.and_eq_true, decide_eq_true_eq, decide_eq_true_eq, decide_eq_true_eq]
      omega
    rw [ea]
    generalize d.all (fun d => decide (1 ≤ d ∧ d ≤ 1000)) = A
    have hd : d = [] ↔ d.length = 0 := by
      constructor
      · rintro rfl; rfl
      · exact List.length_eq_zero_iff.mp
    have e3 : decide (10000 < t ∨ c = 0 ∨ 40 < c ∨ d = [] ∨ 8 < d.length ∨ A = false) = decide (10000 < t ∨ c = 0 ∨ 40 < c ∨ d.length = 0 ∨ 8 < d.length ∨ A = false) := decide_eq_decide.mpr (by rw [hd])
    rw [e3]
    generalize d.length = L
    by_cases c1 : (t : Int) ≤ 10000
    · rw [if_neg (by omega)]
      by_cases c2 : 1 ≤ (c : Int) ∧ (c : Int) ≤ 40
      · rw [if_neg (by omega)]
        by_cases c3 : 1 ≤ L ∧ L ≤ 8
        · rw [if_neg (by omega)]
          cases A with
          | true => rw [decide_eq_false (by simp; omega)]; rfl
          | false => rw [decide_eq_true (by simp)]; rfl
        · rw [if_pos c3, decide_eq_true (by omega)]
          rfl
      · rw [if_pos c2, decide_eq_true (by omega)]
        rfl
    · rw [if_pos (by omega), decide_eq_true (by omega)]
      rfl
  rw [e, Bool.not_not]
  by_cases k : 10000 < t ∨ c = 0 ∨ 40 < c ∨ d = [] ∨ 8 < d.length ∨ (d.all fun d => decide (1 ≤ d ∧ d ≤ 1000)) = false
  · rw [if_pos k, if_pos (decide_eq_true k)]
    exact ⟨rfl, h1, h2, h3, h4⟩
  · rw [if_neg k, if_neg (by simpa using k)]
    refine ⟨rfl, h1, ?_, h3, ?_⟩
    · have : d ≠ [] := fun q => k (by simp [q])
      show some _ = if d = [] then none else some _
      rw [if_neg this]
      rfl
    · right
      have hA : (d.all fun d => decide (1 ≤ d ∧ d ≤ 1000)) = true := by
        cases q : d.all fun d => decide (1 ≤ d ∧ d ≤ 1000) with
        | true => rfl
        | false => exact absurd (.inr (.inr (.inr (.inr (.inr q))))) k
      rw [List.all_eq_true] at hA
      have hd : d ≠ [] := fun q => k (by simp [q])
      refine ⟨⟨by show 1 ≤ c; omega, hd, fun x hx => ?_⟩, by show t ≤ 10000; omega, by show c ≤ 40; omega, by show d.length ≤ 8; omega, fun x hx => ?_⟩
      · have := hA x hx
        simp at this
        exact this.1
      · have := hA x hx
        simp at this
        exact this.2

/-! calls from number 5 on -/
theorem sim_status (h : Sim (some md) m) : ((Lrx6.status md.program : Nat) : Int) = statusM (mpOf md.program) := status_is h.wf
theorem status_zero {P : Lrx6.Program} (wf : WF P) : Lrx6.status P ≠ 0 ↔ statusM (mpOf P) ≠ 0 := by
  have := status_is wf
  omega
theorem status_two {P : Lrx6.Program} (wf : WF P) : Lrx6.status P ≠ 2 ↔ statusM (mpOf P) ≠ 2 := by
  have := status_is wf
  omega
theorem corners_ne {P : Lrx6.Program} (wf : WF P) (h : Lrx6.status P = 0) : cornersM (mpOf P) ≠ [] := by
  intro e
  have := (corners_tell wf).nil.mpr e
  unfold Lrx6.status at h
  rw [if_pos this] at h
  cases h
theorem fractions_res {p : List Int} {n : Nat} (h : Pt n p) : flat (Lrx6.fractionsResult ((toQ p).map fr)) = [(n : Int)] ++ fractionsOf p := by
  unfold flat Lrx6.fractionsResult
  rw [List.length_map, toQ_length, h.2]
  show (n : Int) :: _ = (n : Int) :: _
  rw [fractions_told h.1]
  rfl
theorem sim_optimum (h : Sim (some md) m) : flat (Lrx6.step (some md) .optimum).2 = optimumA (mpOf md.program) := by
  have wf := h.wf
  unfold optimumA
  simp only [Lrx6.step]
  by_cases c : Lrx6.status md.program ≠ 0
  · rw [if_pos c, if_pos ((status_zero wf).mp c)]
    rfl
  · rw [if_neg c, if_neg (fun q => c ((status_zero wf).mpr q))]
    have C := corners_tell wf
    have ne := corners_ne wf (Decidable.not_not.mp c)
    obtain ⟨b1, b2⟩ := C.best (goal := md.program.objective) (f := Lrx6.value md.program) ne (fun q => value_fr _ q)
    have pt := C.pt _ b2
    unfold Lrx6.optimum
    rw [b1]
    show (0 : Int) :: (Lrx6.value md.program ((toQ _).map fr) :: (toQ _).map fr).flatMap Lrx1.ints = _
    rw [List.flatMap_cons, value_is pt.1, ← fractions_told pt.1]
    rfl
theorem sim_multipliers (h : Sim (some md) m) : flat (Lrx6.step (some md) .multipliers).2 = multipliersA (mpOf md.program) := by
  have wf := h.wf
  unfold multipliersA
  simp only [Lrx6.step]
  by_cases c : Lrx6.status md.program ≠ 0
  · rw [if_pos c, if_pos ((status_zero wf).mp c)]
    rfl
  · rw [if_neg c, if_neg (fun q => c ((status_zero wf).mpr q))]
    have C := corners_tell (dual_wf md.program)
    have ne : cornersM (mpOf (Lrx6.dual md.program)) ≠ [] := fun e => dual_corners wf (Decidable.not_not.mp c) (C.nil.mpr e)
    obtain ⟨b1, b2⟩ := C.best (goal := (Lrx6.dual md.program).objective) (f := Lrx6.value (Lrx6.dual md.program)) ne (fun q => value_fr _ q)
    have pt := C.pt _ b2
    unfold Lrx6.multipliers
    rw [b1]
    show flat (Lrx6.fractionsResult ((toQ _).map fr)) = _
    rw [fractions_res pt, ← dual_is wf]
    rfl
theorem refutations_eq (P : Lrx6.Program) : Lrx6.refutations P = (Lrx6.rays (Lrx6.dual P)).filter fun d => Lrx1.lt Lrx1.zero (Lrx6.value (Lrx6.dual P) d) := by
  have hr : Lrx6.rays ⟨P.constraints.length, (List.range P.variables).map (fun j => (⟨P.constraints.map fun c => -(c.coefficients.getD j 0), 0⟩ : Constraint)), []⟩ = Lrx6.rays (Lrx6.dual P) := by
    unfold Lrx6.rays Lrx6.dual
    simp only [List.map_map]
    rfl
  show (Lrx6.rays ⟨P.constraints.length, (List.range P.variables).map (fun j => (⟨P.constraints.map fun c => -(c.coefficients.getD j 0), 0⟩ : Constraint)), []⟩).filter (fun y => Lrx1.lt (Lrx6.dot (P.constraints.map fun c => c.bound) y) Lrx1.zero) = _
  rw [hr]
  have T := rays_tell (dual_wf P)
  refine List.filter_congr fun d hd => ?_
  obtain ⟨q, rfl, _⟩ := T.form d hd
  rw [dot_fr, value_fr, zero_fr, lt_fr, lt_fr]
  have neg : ∀ (a : List Int) (q : List Rat), vd (a.map fun v => -v) q = - vd a q := by
    intro a
    induction a with
    | nil => intro q; simp
    | cons x a ih =>
      intro q
      cases q with
      | nil => simp
      | cons y q =>
        rw [List.map_cons, vd_cons, vd_cons, ih, Rat.intCast_neg]
        grind
  have e : (Lrx6.dual P).objective = (P.constraints.map fun c => c.bound).map fun v => -v := by
    unfold Lrx6.dual
    rw [List.map_map]
    rfl
  rw [e, neg]
  refine decide_eq_decide.mpr ?_
  constructor <;> intro h <;> grind
theorem sim_refutation (h : Sim (some md) m) : flat (Lrx6.step (some md) .refutation).2 = refutationA (mpOf md.program) := by
  have wf := h.wf
  have I := improving_tell (dual_wf md.program)
  have e := refutations_eq md.program
  unfold refutationA
  simp only [Lrx6.step]
  rw [← dual_is wf, e]
  by_cases c : improvingM (mpOf (Lrx6.dual md.program)) = []
  · rw [if_pos (by rw [c]; rfl), I.nil.mpr c]
    rfl
  · obtain ⟨b1, b2⟩ := I.first c
    rw [if_neg (fun q => c (List.length_eq_zero_iff.mp q)), b1]
    show flat (Lrx6.fractionsResult ((toQ _).map fr)) = _
    rw [fractions_res (I.pt _ b2)]
    rfl
theorem sim_ray (h : Sim (some md) m) : flat (Lrx6.step (some md) .ray).2 = rayA (mpOf md.program) := by
  have wf := h.wf
  unfold rayA
  simp only [Lrx6.step]
  by_cases c : Lrx6.status md.program ≠ 2
  · rw [if_pos c, if_pos ((status_two wf).mp c)]
    rfl
  · rw [if_neg c, if_neg (fun q => c ((status_two wf).mpr q))]
    have T := rays_tell wf
    have I := improving_tell wf
    -- there is one that improves
    have ne : improvingM (mpOf md.program) ≠ [] := by
      intro e
      have c := Decidable.not_not.mp c
      unfold Lrx6.status at c
      split at c
      · cases c
      · split at c
        · next q => exact (any_filter _ _).mp q (I.nil.mpr e)
        · cases c
    obtain ⟨m1, k1⟩ := best_is (goal := md.program.objective) I.pt ne
    have gp : ∀ p ∈ improvingM (mpOf md.program), 0 < vd md.program.objective (toQ p) := fun p hp => by
      have := (List.mem_filter.mp hp).2
      rw [gains_fr (I.pt p hp).1] at this
      exact of_decide_eq_true this
    have mem : bestOf (improvingM (mpOf md.program)) md.program.objective ∈ raysM (mpOf md.program) := (List.mem_filter.mp m1).1
    have hf : ∀ q : List Rat, Lrx6.value md.program (q.map fr) = fr (vd md.program.objective q) := fun q => value_fr _ q
    rcases best_spec hf T.form with ⟨e, _⟩ | ⟨r, e, b⟩
    · have := T.nil.mp e
      rw [this] at mem
      exact absurd mem List.not_mem_nil
    · rw [e]
      have : r = toQ (bestOf (improvingM (mpOf md.program)) md.program.objective) := best_unique (g := vd md.program.objective) (I := fun q => q.map fr ∈ Lrx6.rays md.program) (n := md.program.variables) (fun x hx => by
        obtain ⟨q, e, hq⟩ := T.form _ hx
        rw [fr_map_inj e, hq]) b ⟨(T.mem _).mpr ⟨_, mem, rfl⟩, fun x hx => by
          obtain ⟨p, hp, rfl⟩ := (T.mem x).mp hx
          by_cases g : gains md.program.objective p = true
          · exact k1 p (List.mem_filter.mpr ⟨hp, g⟩)
          · have g' : ¬ 0 < vd md.program.objective (toQ p) := by
              rw [gains_fr (T.pt p hp).1] at g
              simpa using g
            have := gp _ m1
            rintro (q | ⟨q, _⟩)
            · grind
            · change vd md.program.objective (toQ p) = vd md.program.objective (toQ (bestOf (improvingM (mpOf md.program)) md.program.objective)) at q
              rw [q] at g'
              exact g' this⟩
      rw [this]
      show flat (Lrx6.fractionsResult ((toQ _).map fr)) = _
      rw [fractions_res (I.pt _ m1)]
      rfl
theorem sim_corners (h : Sim (some md) m) : flat (Lrx6.step (some md) .corners).2 = [((cornersM (mpOf md.program)).length : Int)] := by
  simp only [Lrx6.step]
  rw [(corners_tell h.wf).count]
  rfl
theorem yes_flat (b : Bool) : flat (Lrx6.yes b) = [if b then 1 else 0] := rfl
theorem sim_isFeasible (h : Sim (some md) m) (nums dens : List Int) : flat (Lrx6.step (some md) (.isFeasible nums dens)).2 = isFeasA (mpOf md.program) nums dens := by
  unfold isFeasA
  simp only [Lrx6.step]
  rw [isVec_is]
  cases c : isVecM nums dens md.program.variables with
  | false => rw [if_pos rfl, if_pos (by show (!isVecM nums dens md.program.variables) = true; rw [c]; rfl)]; rfl
  | true =>
    rw [if_neg (by simp), if_neg (by show ¬ (!isVecM nums dens md.program.variables) = true; rw [c]; simp), yes_flat]
    obtain ⟨pt, e⟩ := point_is c
    rw [e, feas_is h.wf pt]
theorem sim_slack (h : Sim (some md) m) (k : Nat) (nums dens : List Int) : flat (Lrx6.step (some md) (.slack k nums dens)).2 = slackA (mpOf md.program) (k : Int) nums dens := by
  have hl : (mpOf md.program).rows.length = md.program.constraints.length := by simp [mpOf]
  unfold slackA
  simp only [Lrx6.step]
  rw [isVec_is, hl]
  by_cases c0 : md.program.constraints.length ≤ k
  · rw [if_pos c0, if_pos (by omega)]
    rfl
  · rw [if_neg c0, if_neg (show ¬ (k : Int) ≥ (md.program.constraints.length : Int) by omega)]
    cases c : isVecM nums dens md.program.variables with
    | false => rw [if_pos rfl, if_pos (by show (!isVecM nums dens md.program.variables) = true; rw [c]; rfl)]; rfl
    | true =>
      rw [if_neg (by simp), if_neg (by show ¬ (!isVecM nums dens md.program.variables) = true; rw [c]; simp)]
      obtain ⟨pt, e⟩ := point_is c
      have kl : k < md.program.constraints.length := by omega
      have g1 : md.program.constraints.getD k ⟨[], 0⟩ = md.program.constraints[k] := by
        rw [List.getD_eq_getElem?_getD, List.getElem?_eq_getElem kl]
        rfl
      have g2 : (mpOf md.program).rows.getD (k : Int).toNat [] = rowOf md.program.constraints[k] := by
        rw [show (k : Int).toNat = k by omega]
        show (md.program.constraints.map rowOf).getD k [] = _
        rw [getD_map_ _ rowOf ⟨[], 0⟩ [] k kl, g1]
      rw [g1, g2, e]
      show (0 : Int) :: List.flatMap Lrx1.ints [_] = _
      rw [List.flatMap_cons, List.flatMap_nil, List.append_nil, slack_is (P := md.program) pt.1 (by rw [pt.2, h.wf _ (List.getElem_mem kl)])]
      rfl
theorem sim_checkBound (h : Sim (some md) m) (nums dens : List Int) : flat (Lrx6.step (some md) (.checkBound nums dens)).2 = checkBoundA (mpOf md.program) nums dens := by
  have hl : (dualM (mpOf md.program)).width = md.program.constraints.length := by simp [dualM, mpOf]
  unfold checkBoundA
  simp only [Lrx6.step]
  rw [isVec_is, hl]
  cases c : isVecM nums dens md.program.constraints.length with
  | false => rfl
  | true =>
    obtain ⟨pt, e⟩ := point_is c
    have pt' : Pt (Lrx6.dual md.program).variables (pointOf nums dens) := pt
    rw [if_neg (by simp), if_neg (by simp), e, ← dual_is h.wf]
    unfold Lrx6.provenBound
    rw [feas_is (dual_wf _) pt']
    cases keepM (mpOf (Lrx6.dual md.program)).rows (pointOf nums dens) with
    | false => rfl
    | true =>
      show (0 : Int) :: List.flatMap Lrx1.ints [_] = _
      rw [List.flatMap_cons, List.flatMap_nil, List.append_nil, proven_is pt.1]
      rfl
/-- a direction of the program with each bound put to 0 -/
theorem improving_is {P : Lrx6.Program} (wf : WF P) {p : List Int} (pt : Pt P.variables p) : Lrx6.isImprovingRay P ((toQ p).map fr) = isImpM (mpOf P) p := by
  unfold isImpM
  rw [cone_rows, ← feas_is (hom_wf wf) pt]
  have : gains (mpOf P).goal p = Lrx1.lt Lrx1.zero (Lrx6.value P ((toQ p).map fr)) := by
    rw [value_fr, zero_fr, lt_fr]
    exact gains_fr pt.1 _
  rw [this]
  unfold Lrx6.isImprovingRay Lrx6.isFeasible
  have e : (homP P).constraints.all (Lrx6.satisfies ((toQ p).map fr)) = P.constraints.all fun c => Lrx1.le (Lrx6.dot c.coefficients ((toQ p).map fr)) Lrx1.zero := by
    show (P.constraints.map hom).all _ = _
    rw [List.all_map]
    rfl
  rw [e, Bool.and_assoc, Bool.and_assoc]
  rfl
theorem sim_checkRay (h : Sim (some md) m) (nums dens : List Int) : flat (Lrx6.step (some md) (.checkRay nums dens)).2 = checkRayA (mpOf md.program) nums dens := by
  unfold checkRayA
  simp only [Lrx6.step]
  rw [isVec_is]
  cases c : isVecM nums dens md.program.variables with
  | false => rw [if_pos rfl, if_pos (by show (!isVecM nums dens md.program.variables) = true; rw [c]; rfl)]; rfl
  | true =>
    rw [if_neg (by simp), if_neg (by show ¬ (!isVecM nums dens md.program.variables) = true; rw [c]; simp), yes_flat]
    obtain ⟨pt, e⟩ := point_is c
    rw [e, improving_is h.wf pt]
theorem refutes_is {P : Lrx6.Program} (wf : WF P) {p : List Int} (pt : Pt P.constraints.length p) : Lrx6.refutes P ((toQ p).map fr) = isImpM (mpOf (Lrx6.dual P)) p := by
  rw [← improving_is (dual_wf P) pt]
  have neg : ∀ (a : List Int) (q : List Rat), vd (a.map fun v => -v) q = - vd a q := by
    intro a
    induction a with
    | nil => intro q; simp
    | cons x a ih =>
      intro q
      cases q with
      | nil => simp
      | cons y q =>
        rw [List.map_cons, vd_cons, vd_cons, ih, Rat.intCast_neg]
        grind
  unfold Lrx6.refutes Lrx6.isImprovingRay
  have e1 : Lrx1.lt (Lrx6.dot (P.constraints.map fun c => c.bound) ((toQ p).map fr)) Lrx1.zero = Lrx1.lt Lrx1.zero (Lrx6.value (Lrx6.dual P) ((toQ p).map fr)) := by
    rw [dot_fr, value_fr, zero_fr, lt_fr, lt_fr]
    have e : (Lrx6.dual P).objective = (P.constraints.map fun c => c.bound).map fun v => -v := by
      unfold Lrx6.dual
      rw [List.map_map]
      rfl
    rw [e, neg]
    refine decide_eq_decide.mpr ?_
    constructor <;> intro h <;> grind
  rw [e1]
  congr 3
  show _ = ((List.range P.variables).map _).all _
  rw [List.all_map]
  congr 1
  funext j
  show Lrx1.le Lrx1.zero (Lrx6.dot (P.constraints.map fun c => c.coefficients.getD j 0) ((toQ p).map fr)) = Lrx1.le (Lrx6.dot (P.constraints.map fun c => -(c.coefficients.getD j 0)) ((toQ p).map fr)) Lrx1.zero
  have e : (P.constraints.map fun c => -(c.coefficients.getD j 0)) = (P.constraints.map fun c => c.coefficients.getD j 0).map fun v => -v := by
    rw [List.map_map]
    rfl
  rw [e, dot_fr, dot_fr, zero_fr, le_fr, le_fr, neg]
  refine decide_eq_decide.mpr ?_
  constructor <;> intro h <;> grind
theorem sim_checkRefutation (h : Sim (some md) m) (nums dens : List Int) : flat (Lrx6.step (some md) (.checkRefutation nums dens)).2 = checkRefA (mpOf md.program) nums dens := by
  have hl : (dualM (mpOf md.program)).width = md.program.constraints.length := by simp [dualM, mpOf]
  unfold checkRefA
  simp only [Lrx6.step]
  rw [isVec_is, hl]
  cases c : isVecM nums dens md.program.constraints.length with
  | false => rfl
  | true =>
    obtain ⟨pt, e⟩ := point_is c
    rw [if_neg (by simp), if_neg (by simp), yes_flat, e, ← dual_is h.wf, refutes_is h.wf pt]
theorem sim_checkOptimum (h : Sim (some md) m) (nums dens dn dd : List Int) : flat (Lrx6.step (some md) (.checkOptimum nums dens dn dd)).2 = checkOptA (mpOf md.program) nums dens dn dd := by
  have hl : (dualM (mpOf md.program)).width = md.program.constraints.length := by simp [dualM, mpOf]
  unfold checkOptA
  simp only [Lrx6.step]
  rw [isVec_is, isVec_is, hl]
  have hw : (mpOf md.program).width = md.program.variables := rfl
  rw [hw]
  cases c : isVecM nums dens md.program.variables with
  | false => rfl
  | true =>
    cases c2 : isVecM dn dd md.program.constraints.length with
    | false => rfl
    | true =>
      obtain ⟨pt, e⟩ := point_is c
      obtain ⟨pt2, e2⟩ := point_is c2
      have pt2' : Pt (Lrx6.dual md.program).variables (pointOf dn dd) := pt2
      rw [if_neg (by simp), if_neg (by simp), yes_flat, e, e2, feas_is h.wf pt, ← dual_is h.wf]
      unfold Lrx6.provenBound
      rw [feas_is (dual_wf _) pt2']
      cases keepM (mpOf md.program).rows (pointOf nums dens) with
      | false => rfl
      | true =>
        cases keepM (mpOf (Lrx6.dual md.program)).rows (pointOf dn dd) with
        | false => rfl
        | true =>
          rw [if_neg (c := (!true || !true) = true) (by simp), if_pos rfl]
          have a1 := value_is (P := md.program) pt.1
          have a2 := proven_is (P := md.program) pt2.1
          have : (some (Lrx6.dot (md.program.constraints.map fun c => c.bound) ((toQ (pointOf dn dd)).map fr)) == some (Lrx6.value md.program ((toQ (pointOf nums dens)).map fr))) = decide (valueOf md.program.objective (pointOf nums dens) = provenM (mpOf md.program) (pointOf dn dd)) := by
            rw [← a1, ← a2]
            rw [Bool.eq_iff_iff, decide_eq_true_eq, beq_iff_eq, Option.some.injEq, ints_inj]
            exact ⟨fun h => h.symm, fun h => h.symm⟩
          rw [this, Bool.true_and]
          by_cases q : valueOf md.program.objective (pointOf nums dens) = provenM (mpOf md.program) (pointOf dn dd)
          · have q' : valueOf (mpOf md.program).goal (pointOf nums dens) = provenM (mpOf md.program) (pointOf dn dd) := q
            rw [if_pos (decide_eq_true q), if_pos q']
          · have q' : ¬ valueOf (mpOf md.program).goal (pointOf nums dens) = provenM (mpOf md.program) (pointOf dn dd) := q
            rw [if_neg (by simpa using q), if_neg q']
/-- the calls about the cycle -/
theorem cyc_case (h : Sim (some md) m) {f : MC → List Int} {r : Lrx6.Result} (k : OkC md.cycle → flat r = f (mcOf md.cycle)) : flat (if md.cycle.demands = [] then Lrx6.error (-6) else r) = cycA f m.cyc := by
  rw [h.2.1]
  by_cases c : md.cycle.demands = []
  · rw [if_pos c, if_pos c]
    rfl
  · rw [if_neg c, if_neg c]
    exact k ((h.2.2.2.resolve_left c).1)
theorem sim_asymptotic (h : Sim (some md) m) : flat (Lrx6.step (some md) .asymptotic).2 = asymA m.cyc := cyc_case h fun k => by
  show (0 : Int) :: List.flatMap Lrx1.ints [_, _] = _
  rw [List.flatMap_cons, List.flatMap_cons, List.flatMap_nil, List.append_nil, asym_is k]
  rfl
theorem sim_balanced (h : Sim (some md) m) : flat (Lrx6.step (some md) .balanced).2 = balA m.cyc := cyc_case h fun k => by
  show (0 : Int) :: List.flatMap Lrx1.ints [_, _] = _
  rw [List.flatMap_cons, List.flatMap_cons, List.flatMap_nil, List.append_nil, bal_is k]
  rfl
theorem sim_exact (h : Sim (some md) m) : flat (Lrx6.step (some md) .exact).2 = exactA m.cyc := cyc_case h fun k => by
  show (0 : Int) :: List.flatMap Lrx1.ints [_] = _
  rw [List.flatMap_cons, List.flatMap_nil, List.append_nil]
  have e : (mcOf md.cycle).customers.toNat = md.cycle.customers := by
    show ((md.cycle.customers : Nat) : Int).toNat = _
    omega
  rw [e, exact_all k, List.range_succ, List.map_append, List.map_singleton, List.getLastD_concat]
  rfl
theorem sim_saturation (h : Sim (some md) m) : flat (Lrx6.step (some md) .saturation).2 = satA m.cyc := cyc_case h fun k => by
  show (0 : Int) :: List.flatMap Lrx1.ints [_] = _
  rw [List.flatMap_cons, List.flatMap_nil, List.append_nil, sat_is k]
  rfl
theorem sim_curve (h : Sim (some md) m) (most : Nat) : flat (Lrx6.step (some md) (.exactCurve most)).2 = curveA (most : Int) m.cyc := cyc_case h fun k => by
  by_cases c : 12 < most
  · rw [if_pos c, if_pos (by omega)]
    rfl
  · rw [if_neg c, if_neg (by omega)]
    rw [show ((most : Int)).toNat = most by omega, exact_all k]
    unfold flat Lrx6.fractionsResult
    simp only [List.length_map]
    show _ :: _ = _ :: _
    rw [List.flatMap_map, List.flatMap_map]
    rfl
theorem sim_summary (h : Sim (some md) m) : flat (Lrx6.step (some md) .summary).2 = summaryA (mpOf md.program) m.cyc := by
  unfold summaryA
  rw [h.2.1]
  show [_, _, _] = _
  have e1 : ((mpOf md.program).rows.length : Int) = (md.program.constraints.length : Int) := by simp [mpOf]
  rw [e1]
  by_cases c : md.cycle.demands = []
  · rw [if_pos c, c]
    rfl
  · rw [if_neg c]
    show [_, _, _] = [_, _, ((md.cycle.demands.map fun (d : Nat) => (d : Int)).length : Int)]
    rw [List.length_map]
    rfl
end
end CB

/- CbWhole -/
/-! A whole request. -/
namespace CB
theorem whole_id (c : List (List Int)) : PyLrx6.whole c = c := by
  unfold PyLrx6.whole
  split <;> rfl
theorem nat_cast {n : Int} (h : Lrx6Neutral.natural n = true) : ((n.toNat : Nat) : Int) = n := by
  unfold Lrx6Neutral.natural at h
  simp at h
  omega
theorem nats_cast {l : List Int} (h : Lrx6Neutral.naturals l = true) : (l.map Int.toNat).map (fun (x : Nat) => (x : Int)) = l := by
  unfold Lrx6Neutral.naturals at h
  rw [Bool.and_eq_true, List.all_eq_true] at h
  rw [List.map_map]
  have : ∀ l : List Int, (∀ x ∈ l, Lrx6Neutral.natural x = true) → l.map ((fun (x : Nat) => (x : Int)) ∘ Int.toNat) = l := by
    intro l
    induction l with
    | nil => intro _; rfl
    | cons a l ih =>
      intro k
      rw [List.map_cons, ih fun x hx => k x (List.mem_cons_of_mem _ hx)]
      show ((a.toNat : Nat) : Int) :: l = a :: l
      rw [nat_cast (k a (List.mem_cons_self ..))]
  exact this l h.1
/-- what a call is -/
theorem call_is {p : Int} {xs : List Int} {rs : List (List Int)} (ha : Lrx6Neutral.asked1 ((p :: xs) :: rs) = true) {s : Lrx6.State} {m : MSt} (h : Sim s m) :
    (Lrx6Neutral.step s ((p :: xs) :: rs)).2 = (stepM m p xs rs).2 ∧ Sim (Lrx6Neutral.step s ((p :: xs) :: rs)).1 (stepM m p xs rs).1 := by
  -- without a program all but create are refused
  have dead : ∀ x : Lrx6.Call, Lrx6Neutral.callOf ((p :: xs) :: rs) = some x → (∀ n, x ≠ .create n) → p ≠ 0 → (∀ md, s = some md → flat (Lrx6.step (some md) x).2 = (stepM m p xs rs).2 ∧ Sim (Lrx6.step (some md) x).1 (stepM m p xs rs).1) →
      (Lrx6Neutral.step s ((p :: xs) :: rs)).2 = (stepM m p xs rs).2 ∧ Sim (Lrx6Neutral.step s ((p :: xs) :: rs)).1 (stepM m p xs rs).1 := by
    intro x hx hc hp k
    have e : Lrx6Neutral.step s ((p :: xs) :: rs) = ((Lrx6.step s x).1, flat (Lrx6.step s x).2) := by
      unfold Lrx6Neutral.step
      rw [hx]
      rfl
    rw [e]
    cases s with
    | some md => exact k md rfl
    | none =>
      have e2 : Lrx6.step none x = (none, Lrx6.error (-11)) := by
        cases x <;> first | rfl | exact absurd rfl (hc _)
      have e3 : stepM m p xs rs = (m, [-11]) := by
        unfold stepM
        rw [h.1]
        exact if_neg hp
      rw [e2, e3]
      exact ⟨rfl, h⟩
  -- a call that changes nothing
  have still : ∀ x : Lrx6.Call, Lrx6Neutral.callOf ((p :: xs) :: rs) = some x → (∀ n, x ≠ .create n) → p ≠ 0 → (∀ md, (Lrx6.step (some md) x).1 = some md) → ∀ f : MP → Option MC → List Int, (∀ M, m.prog = some M → stepM m p xs rs = (m, f M m.cyc)) →
      (∀ md, Sim (some md) m → flat (Lrx6.step (some md) x).2 = f (mpOf md.program) m.cyc) →
      (Lrx6Neutral.step s ((p :: xs) :: rs)).2 = (stepM m p xs rs).2 ∧ Sim (Lrx6Neutral.step s ((p :: xs) :: rs)).1 (stepM m p xs rs).1 := by
    intro x hx hc hp hs f hf k
    refine dead x hx hc hp fun md e => ?_
    subst e
    rw [hf _ h.1, hs md]
    exact ⟨k md h, h⟩
  unfold Lrx6Neutral.asked1 at ha
  split at ha
  · next n e =>
    cases e
    have k := sim_create h n.toNat
    rw [nat_cast ha] at k
    have e3 : stepM m 0 [n] [] = createM m n := by
      unfold stepM
      split
      · rfl
      · rfl
    rw [e3]
    exact k
  · next b l e =>
    cases e
    refine dead (.addConstraint b l) rfl (fun _ => by intro q; cases q) (by decide) fun md e => ?_
    subst e
    have e3 : stepM m 1 [b] [l] = addM m (mpOf md.program) b l := by
      unfold stepM
      rw [h.1]
      rfl
    rw [e3]
    exact sim_add h b l
  · next k e =>
    cases e
    refine dead (.removeConstraint k.toNat) rfl (fun _ => by intro q; cases q) (by decide) fun md e => ?_
    subst e
    have e3 : stepM m 2 [k] [] = remM m (mpOf md.program) k := by
      unfold stepM
      rw [h.1]
      rfl
    have := sim_remove h k.toNat
    rw [nat_cast ha] at this
    rw [e3]
    exact this
  · next l e =>
    cases e
    refine dead (.setObjective l) rfl (fun _ => by intro q; cases q) (by decide) fun md e => ?_
    subst e
    have e3 : stepM m 3 [] [l] = objM m (mpOf md.program) l := by
      unfold stepM
      rw [h.1]
      rfl
    rw [e3]
    exact sim_objective h l
  · next a b k e =>
    cases e
    rw [Bool.and_eq_true, Bool.and_eq_true] at ha
    refine dead (.setCycle a.toNat b.toNat (k.map Int.toNat)) rfl (fun _ => by intro q; cases q) (by decide) fun md e => ?_
    subst e
    have e3 : stepM m 4 [a, b] [k] = cycM m a b k := by
      unfold stepM
      rw [h.1]
      rfl
    have := sim_cycle h a.toNat b.toNat (k.map Int.toNat)
    rw [nat_cast ha.1, nat_cast ha.2.1, nats_cast ha.2.2] at this
    rw [e3]
    exact this
  · next e =>
    cases e
    exact still .status rfl (fun _ => by intro q; cases q) (by decide) (fun _ => rfl) (fun M _ => [statusM M]) (fun M hM => by unfold stepM; rw [hM]; rfl) (fun md k => by
      show [((Lrx6.status md.program : Nat) : Int)] = _
      rw [sim_status k])
  · next e =>
    cases e
    exact still .optimum rfl (fun _ => by intro q; cases q) (by decide) (fun _ => rfl) (fun M _ => optimumA M) (fun M hM => by unfold stepM; rw [hM]; rfl) (fun md k => sim_optimum k)
  · next e =>
    cases e
    exact still .multipliers rfl (fun _ => by intro q; cases q) (by decide) (fun _ => rfl) (fun M _ => multipliersA M) (fun M hM => by unfold stepM; rw [hM]; rfl) (fun md k => sim_multipliers k)
  · next e =>
    cases e
    exact still .refutation rfl (fun _ => by intro q; cases q) (by decide) (fun _ => rfl) (fun M _ => refutationA M) (fun M hM => by unfold stepM; rw [hM]; rfl) (fun md k => sim_refutation k)
  · next e =>
    cases e
    exact still .ray rfl (fun _ => by intro q; cases q) (by decide) (fun _ => rfl) (fun M _ => rayA M) (fun M hM => by unfold stepM; rw [hM]; rfl) (fun md k => sim_ray k)
  · next e =>
    cases e
    exact still .corners rfl (fun _ => by intro q; cases q) (by decide) (fun _ => rfl) (fun M _ => [((cornersM M).length : Int)]) (fun M hM => by unfold stepM; rw [hM]; rfl) (fun md k => sim_corners k)
  · next l k e =>
    cases e
    exact still (.isFeasible l k) rfl (fun _ => by intro q; cases q) (by decide) (fun _ => rfl) (fun M _ => isFeasA M l k) (fun M hM => by unfold stepM; rw [hM]; rfl) (fun md q => sim_isFeasible q l k)
  · next i l k e =>
    cases e
    rw [Bool.and_eq_true] at ha
    exact still (.slack i.toNat l k) rfl (fun _ => by intro q; cases q) (by decide) (fun _ => rfl) (fun M _ => slackA M i l k) (fun M hM => by unfold stepM; rw [hM]; rfl) (fun md q => by
      have := sim_slack q i.toNat l k
      rw [nat_cast ha.1] at this
      exact this)
  · next l k e =>
    cases e
    exact still (.checkBound l k) rfl (fun _ => by intro q; cases q) (by decide) (fun _ => rfl) (fun M _ => checkBoundA M l k) (fun M hM => by unfold stepM; rw [hM]; rfl) (fun md q => sim_checkBound q l k)
  · next l k e =>
    cases e
    exact still (.checkRefutation l k) rfl (fun _ => by intro q; cases q) (by decide) (fun _ => rfl) (fun M _ => checkRefA M l k) (fun M hM => by unfold stepM; rw [hM]; rfl) (fun md q => sim_checkRefutation q l k)
  · next l k e =>
    cases e
    exact still (.checkRay l k) rfl (fun _ => by intro q; cases q) (by decide) (fun _ => rfl) (fun M _ => checkRayA M l k) (fun M hM => by unfold stepM; rw [hM]; rfl) (fun md q => sim_checkRay q l k)
  · next l k i j e =>
    cases e
    exact still (.checkOptimum l k i j) rfl (fun _ => by intro q; cases q) (by decide) (fun _ => rfl) (fun M _ => checkOptA M l k i j) (fun M hM => by unfold stepM; rw [hM]; rfl) (fun md q => sim_checkOptimum q l k i j)
  · next e =>
    cases e
    exact still .asymptotic rfl (fun _ => by intro q; cases q) (by decide) (fun _ => rfl) (fun _ c => asymA c) (fun M hM => by unfold stepM; rw [hM]; rfl) (fun md k => sim_asymptotic k)
  · next e =>
    cases e
    exact still .balanced rfl (fun _ => by intro q; cases q) (by decide) (fun _ => rfl) (fun _ c => balA c) (fun M hM => by unfold stepM; rw [hM]; rfl) (fun md k => sim_balanced k)
  · next e =>
    cases e
    exact still .exact rfl (fun _ => by intro q; cases q) (by decide) (fun _ => rfl) (fun _ c => exactA c) (fun M hM => by unfold stepM; rw [hM]; rfl) (fun md k => sim_exact k)
  · next e =>
    cases e
    exact still .saturation rfl (fun _ => by intro q; cases q) (by decide) (fun _ => rfl) (fun _ c => satA c) (fun M hM => by unfold stepM; rw [hM]; rfl) (fun md k => sim_saturation k)
  · next i e =>
    cases e
    exact still (.exactCurve i.toNat) rfl (fun _ => by intro q; cases q) (by decide) (fun _ => rfl) (fun _ c => curveA i c) (fun M hM => by unfold stepM; rw [hM]; rfl) (fun md k => by
      have := sim_curve k i.toNat
      rw [nat_cast ha] at this
      exact this)
  · next e =>
    cases e
    exact still .summary rfl (fun _ => by intro q; cases q) (by decide) (fun _ => rfl) (fun M c => summaryA M c) (fun M hM => by unfold stepM; rw [hM]; rfl) (fun md k => sim_summary k)
  · cases ha
end CB

/- WkA -/
/-! Rules that the layer lacks: zip of a list and a tuple; // by a divisor of any sign; the least of a tuple; a call of what an expression gives; a written dict of defs by whole numbers. -/
namespace WK
open PySem PySem.Spec PyProof.Rows L2

/-! ### zip of a list and a tuple -/
/-- both as they stand at each turn, the items in new pairs -/
def ItzM (K : PySem.W.Frag) (a b : Addr) : It where
  go i H := ∃ (xs ys : List V) (x y : V), SqL K H a xs ∧ SqT K H b ys ∧ xs[i]? = some x ∧ ys[i]? = some y
  yld i H v H' := ∃ T x y, v = .ref T ∧ H T = none ∧ H' = upd H T (.tup [x, y]) ∧
    (∀ xs, SqL K H a xs → xs[i]? = some x) ∧ ∀ ys, SqT K H b ys → ys[i]? = some y
  stop i H := ∃ xs ys : List V, SqL K H a xs ∧ SqT K H b ys ∧ i ≤ xs.length ∧ i ≤ ys.length ∧ (xs.length = i ∨ ys.length = i)
/-- the five cells of a zip -/
def cells5 (N : Addr) : List Addr := [N + 4, N + 2, N + 3, N, N + 1]
theorem cells5_ge {N c : Addr} (h : c ∈ cells5 N) : N ≤ c := by
  have e : c = N + 4 ∨ c = N + 2 ∨ c = N + 3 ∨ c = N ∨ c = N + 1 := by simpa [cells5] using h
  rcases e with q | q | q | q | q <;> subst q
  all_goals first | exact Nat.le_add_right _ _ | exact Nat.le_refl _
/-- how the cells stand at turn i -/
def StM (N a b : Addr) (i : Nat) (h : Heap) : Prop := IsZip h (N + 4) (N + 2) (N + 3) .none ∧ IsTupOf2 h (N + 2) (.ref N) (.ref (N + 1)) ∧
  (∃ x y, IsTupOf2 h (N + 3) x y) ∧ h.IsListIter N a i ∧ h.IsTupleIter (N + 1) b i
theorem turn_zipM {P : Program} {w : World} {K : PySem.W.Frag} {elts : List Expr} {kk : Nat} {tpos : Pos} {N a b : Addr} (la : a < N) (lb : b < N) :
    Turn P w K (.Tuple elts kk tpos) (ItzM K a b) (cells5 N) (N + 4) (StM N a b) where
  mem := by simp [cells5]
  obj := fun i h st c hc => by
    obtain ⟨hz, hTI, ⟨x, y, hTO⟩, ⟨o1, e1, _, d1⟩, ⟨o2, e2, _, d2⟩⟩ := st
    have e : c = N + 4 ∨ c = N + 2 ∨ c = N + 3 ∨ c = N ∨ c = N + 1 := by simpa [cells5] using hc
    rcases e with q | q | q | q | q <;> subst q
    · exact ⟨_, hz, fun v q => nomatch q⟩
    · exact ⟨_, hTI, fun v q => nomatch q⟩
    · exact ⟨_, hTO, fun v q => nomatch q⟩
    · exact ⟨o1, e1, fun v q => by rw [d1] at q; cases q⟩
    · exact ⟨o2, e2, fun v q => by rw [d2] at q; cases q⟩
  keep := fun i h h' st k => by
    obtain ⟨hz, hTI, ⟨x, y, hTO⟩, h1, h2⟩ := st
    refine ⟨k _ (by simp [cells5]) _ hz, k _ (by simp [cells5]) _ hTI, ⟨x, y, k _ (by simp [cells5]) _ hTO⟩, ?_, ?_⟩
    · exact h1.at fun o q => k N (by simp [cells5]) o q
    · exact h2.at fun o q => k (N + 1) (by simp [cells5]) o q
  item := by
    intro X hP hw hK hc i pins s σ H E I hf st hg
    subst hP hw hK
    obtain ⟨hz, hTI, ⟨x0, y0, hTO⟩, h1, h2⟩ := st
    obtain ⟨xs, ys, x, y, qx, qy, hx, hy⟩ := hg
    obtain ⟨its, rv, p, _⟩ := I.list qx
    obtain ⟨jts, rw_, p2, _⟩ := I.tuple qy
    obtain ⟨u, hu, ru⟩ := rv.get hx
    obtain ⟨u2, hu2, ru2⟩ := rw_.get hy
    have hl1 : i < its.toArray.size := by
      have := (List.getElem?_eq_some_iff.mp hu).1
      simpa using this
    have hl2 : i < jts.toArray.size := by
      have := (List.getElem?_eq_some_iff.mp hu2).1
      simpa using this
    have hh : X.A.in1.handled = none := I.ok.hd hc
    have D1 := Draws.list (prog := X.prog) (w := X.w) (A := X.A.in1) hh N a (Nat.ne_of_lt la) its.toArray
    have D2 := Draws.tuple (prog := X.prog) (w := X.w) (A := X.A.in1) hh (N + 1) b (Nat.ne_of_lt (Nat.lt_succ_of_lt lb)) jts.toArray
    have S : ZipSep2 (N + 4) (N + 2) (N + 3) N (N + 1) [N, a] [N + 1, b] := zip_sep2 (fp1 := [a]) (fp2 := [b]) (by simpa using la) (by simpa using lb)
    have zl : N + 4 < s.heap.objs.size := Heap.lt_size hz
    refine wpAny_pyNext_zipD2_item (i := i) S D1 D2 hz hTI hTO ⟨h1, p.isList⟩ ⟨h2, p2⟩ hl1 hl2 fun v1 v2 g tk y1 y2 z' TO' st1 st2 hT hsz hk => ?_
    have ev1 : v1 = u := by
      rw [show its.toArray[i]? = its[i]? by simp, hu] at y1
      exact (Option.some.inj y1).symm
    have ev2 : v2 = u2 := by
      rw [show jts.toArray[i]? = jts[i]? by simp, hu2] at y2
      exact (Option.some.inj y2).symm
    subst ev1 ev2
    refine ⟨_, rfl, wpAny_letOwnedTupleGo_zip (s := { s with heap := g, toks := tk }) z' fun g2 z2 sb => ?_⟩
    have hT2 : g2.get? s.heap.objs.size = some { cls := .type "tuple", data := .seq #[v1, v2] } := (sb.2 _ (Nat.ne_of_gt zl)).trans hT
    have new : ObjOk X.prog X.w (upd H s.heap.objs.size (.tup [x, y])) g2 s.heap.objs.size (.tup [x, y]) :=
      ⟨by show 2 ≤ sizeLine; decide, [v1, v2], .cons ru (.cons ru2 .nil), ⟨_, hT2, rfl, _, rfl⟩⟩
    have kp : ∀ c o, c ∉ cells5 N → s.heap.get? c = some o → g2.get? c = some o := fun c o hb q => by
      have n4 : c ≠ N + 4 := fun e => hb (by simp [cells5, e])
      have n3 : c ≠ N + 3 := fun e => hb (by simp [cells5, e])
      have n0 : c ≠ N := fun e => hb (by simp [cells5, e])
      have n1 : c ≠ N + 1 := fun e => hb (by simp [cells5, e])
      exact (sb.2 c n4).trans (hk c o n4 n3 n0 n1 q)
    have I1 : Inv X pins σ (upd H s.heap.objs.size (.tup [x, y])) { s with heap := g2, toks := tk } := I.turnedNew (t' := tk) (ch := cells5 N) kp hf (Nat.le_refl _) new
    have i1z : N ≠ N + 4 := Nat.ne_of_lt (Nat.lt_add_of_pos_right (by decide))
    have i2z : N + 1 ≠ N + 4 := Nat.ne_of_lt (Nat.add_lt_add_left (by decide) N)
    have TIz : N + 2 ≠ N + 4 := Nat.ne_of_lt (Nat.add_lt_add_left (by decide) N)
    have TOz : N + 3 ≠ N + 4 := Nat.ne_of_lt (Nat.add_lt_add_left (by decide) N)
    have TIO : N + 2 ≠ N + 3 := Nat.ne_of_lt (Nat.add_lt_add_left (by decide) N)
    have TI0 : N + 2 ≠ N := Nat.ne_of_gt (Nat.lt_add_of_pos_right (by decide))
    have TI1 : N + 2 ≠ N + 1 := Nat.ne_of_gt (Nat.add_lt_add_left (by decide) N)
    refine ⟨.ref s.heap.objs.size, _, I1, rfl, ⟨_, x, y, rfl, I.hok.fresh (Nat.le_refl _), rfl, fun l hl => ?_, fun l hl => ?_⟩, ⟨z2, ?_, ⟨v1, v2, ?_⟩, ?_, ?_⟩, fun c hcm => ?_⟩
    · rw [I.list_inj hl qx]
      exact hx
    · rw [I.tuple_inj hl qy]
      exact hy
    · exact (sb.2 _ TIz).trans (hk _ _ TIz TIO TI0 TI1 hTI)
    · exact (sb.2 _ TOz).trans TO'
    · exact st1.1.at fun o q => (sb.2 _ i1z).trans q
    · exact st2.1.at fun o q => (sb.2 _ i2z).trans q
    · have hlt : c < s.heap.objs.size := by
        have e : c = N + 4 ∨ c = N + 2 ∨ c = N + 3 ∨ c = N ∨ c = N + 1 := by simpa [cells5] using hcm
        rcases e with q | q | q | q | q <;> subst q
        · exact zl
        · exact Heap.lt_size hTI
        · exact Heap.lt_size hTO
        · obtain ⟨_, e1, _⟩ := h1
          exact Heap.lt_size e1
        · obtain ⟨_, e2, _⟩ := h2
          exact Heap.lt_size e2
      rw [upd_ne (Nat.ne_of_lt hlt)]
      exact (hf c hcm).1
  done := by
    intro X hP hw hK hc i pins s σ H E I hf st hg
    subst hP hw hK
    obtain ⟨hz, hTI, ⟨x0, y0, hTO⟩, h1, h2⟩ := st
    obtain ⟨xs, ys, qx, qy, e1, e2, e3⟩ := hg
    obtain ⟨its, rv, p, _⟩ := I.list qx
    obtain ⟨jts, rw_, p2, _⟩ := I.tuple qy
    have l1 := rv.length
    have l2 := rw_.length
    have hh : X.A.in1.handled = none := I.ok.hd hc
    have D1 := Draws.list (prog := X.prog) (w := X.w) (A := X.A.in1) hh N a (Nat.ne_of_lt la) its.toArray
    have D2 := Draws.tuple (prog := X.prog) (w := X.w) (A := X.A.in1) hh (N + 1) b (Nat.ne_of_lt (Nat.lt_succ_of_lt lb)) jts.toArray
    have S : ZipSep2 (N + 4) (N + 2) (N + 3) N (N + 1) [N, a] [N + 1, b] := zip_sep2 (fp1 := [a]) (fp2 := [b]) (by simpa using la) (by simpa using lb)
    have s1 : its.toArray.size = xs.length := by simp [l1]
    have s2 : jts.toArray.size = ys.length := by simp [l2]
    refine wpAny_pyNext_zipD2_end (i := i) S D1 D2 hz hTI hTO ⟨h1, p.isList⟩ ⟨h2, p2⟩ (by omega) (by omega) (by omega) fun g tk hk => ⟨rfl, ?_⟩
    refine I.turnedL (t' := tk) (ch := cells5 N) (fun c o hb q => ?_) hf
    exact hk c o (fun e => hb (by simp [cells5, e])) (fun e => hb (by simp [cells5, e])) (fun e => hb (by simp [cells5, e])) (fun e => hb (by simp [cells5, e])) q
  self := fun A i s Q E st h => wpAny_pyIter_zip st.1 h
/-- zip(list, tuple) -/
def iZipM (K : PySem.W.Frag) (ta : TA) : TI := fun σ H R => ta σ H fun vs H1 => ∃ a b xs ys, vs = [.ref a, .ref b] ∧ SqL K H1 a xs ∧ SqT K H1 b ys ∧ R (ItzM K a b) H1
theorem pi_zipM {X : Cx} {e e2 : Expr} {ta : TA} {p pos tpos : Pos} {elts : List Expr} {kk : Nat} (hg : Gl X "zip") (hm : X.mg "zip" = none) (ha : PA X [e, e2] ta)
    (hs : starEach [e, e2] X.env = (false, eval e X.env) :: starEach [e2] X.env := by rfl)
    (hpl : (backTo pos (starEach [e2] X.env)).any (·.1) = false := by rfl) :
    PI X (.Tuple elts kk tpos) (.Call (.Name "zip" p) [e, e2] [] pos) (iZipM X.K ta) := by
  constructor
  intro pins s σ H R I h
  refine Call_ (ld_blt I hg hm PyProof.Rows.boot_zip ?_)
  refine PyProof.Rows.callWith_type1 (thn (ha.run pos pins s σ H _ I h) ?_) hs hpl
  rintro us s1 ⟨vs, H1, I1, r1, a, b, xs, ys, rfl, qx, qy, q⟩
  cases r1 with
  | cons r rr =>
    cases rr with
    | cons r' rr =>
      cases rr
      cases r
      cases r'
      obtain ⟨its, rv, p1, _⟩ := I1.list qx
      obtain ⟨jts, rw_, p2, _⟩ := I1.tuple qy
      have la : a < s1.heap.objs.size := p1.lt
      have lb : b < s1.heap.objs.size := let ⟨_, e, _⟩ := p2; Heap.lt_size e
      refine zip_begins2 (begins_list a its.toArray) (begins_tuple b jts.toArray) p1.isList p2 fun g hz hTI hTO g1 g2 hsz hk => wpAny_pyIter_zip hz ?_
      have I2 : Inv X pins σ H1 { s1 with heap := g } := I1.kept (t' := s1.toks) hk
      refine ⟨s1.heap.objs.size + 4, cells5 s1.heap.objs.size, StM s1.heap.objs.size a b, _, H1, rfl, I2, turn_zipM la lb, ?_, fun c hc => ?_, q⟩
      · exact ⟨hz, hTI, ⟨_, _, hTO⟩, ⟨_, g1, rfl, rfl⟩, ⟨_, g2, rfl, rfl⟩⟩
      · have hle := cells5_ge hc
        exact I1.fpOk hle (I1.hok.fresh hle)

/-! ### numbers -/
/-- the divisor of // : not 0, of less than 9000 bits -/
def CDivZ (_ j : Int) : Prop := j ≠ 0 ∧ j.natAbs.log2 < 9000
section
variable {X : Cx}
theorem op_fdivZ : OpR X (binaryOp .FloorDiv) (rI CDivZ fun i j => .int (i.fdiv j)) := by
  refine opI ?_
  intro i j _ _ _ _ _ hc q
  exact floordiv_int hc.1 q (.inl (PyProof.noPylong_of_log2 hc.2))
theorem cdiv {i j : Int} {b : Nat} (h : j ≠ 0) (hb : j.natAbs < 2 ^ b) (h0 : 0 < b) (h9 : b ≤ 9000) : CDivZ i j :=
  ⟨h, Nat.lt_of_lt_of_le (PySem.Flt.log2_lt_of h0 hb) h9⟩
/-- min(t), t a tuple of whole numbers -/
def rMinT (K : PySem.W.Frag) : List V → Hp → VK → Prop := fun vs H Q => ∃ (a : Addr) (n : Int) (ns : List Int),
  vs = [.ref a] ∧ SqT K H a ((n :: ns).map V.int) ∧ Q (.int (PySem.W.minOf n ns)) H
theorem holdAll_ints {h : Heap} : ∀ {ns : List Int} {us : List Value}, Vals (ns.map V.int) us → PySem.W.HoldAll h us ns
  | [], _, r => by
    cases r
    exact ⟨[], .nil⟩
  | n :: ns, _, r => by
    cases r with
    | cons q t =>
      obtain ⟨tk, rfl⟩ := q
      exact PySem.W.HoldAll.cons (PySem.W.holds_int n tk) (holdAll_ints t)
theorem cr_minT (hc : X.calm = true) (hu : X.A.units + 64 < cLine) : CallR X (.builtin "min") (rMinT X.K) := by
  intro pins s σ H vs us Q I r h
  obtain ⟨a, n, ns, rfl, hs, q⟩ := h
  obtain ⟨its, rv, p, _⟩ := I.tuple hs
  rw [Vals.ref1 r]
  refine PySem.W.min_tuple_datum (x := n) (xs := ns) (I.ok.hd hc) p (by simpa using holdAll_ints rv) (Nat.lt_of_le_of_lt (by show _ ≤ X.A.units + 64; exact Nat.add_le_add_left (by decide : 1 + 0 ≤ 64) _) hu) ?_
  intro i v g tk _ hv hk
  obtain ⟨as, hr⟩ := hv
  have hv' : ∃ t, v = .int (PySem.W.minOf n ns) t := by
    cases hr
    exact ⟨_, rfl⟩
  obtain ⟨t, rfl⟩ := hv'
  exact ⟨.int _, H, I.kept hk, ⟨t, rfl⟩, q⟩

/-! ### a call of what an expression gives -/
/-- f(e, ..), f an expression that gives a def -/
def tCallV (X : Cx) (CX : CXT) (tf : TE) (E : XK) (t : TA) : TE := fun σ H Q => tf σ H fun x H1 => ∃ (f : Addr), x = .ref f ∧ PySem.W.keepIn X.K (.ref f) = true ∧
  t σ H1 fun vs H2 => ∃ (fd : FuncData) (ps : List Str) (sp : Sp) (k : Nat), FnOk X.prog X.w X.K X.mg X.base CX k f fd ps sp ∧ Room k X.A ∧ Binds X.K fd ps [] ∧ sp vs H2 Q E
theorem pe_callV {CX : CXT} {E : XK} {func e : Expr} {es : List Expr} {tf : TE} {t : TA} {pos : Pos} (hf : PE X func tf) (ha : PA X (e :: es) t) (hx : Passes CX X E)
    (hq : eval (.Call func (e :: es) [] pos) X.env = (do callWith pos (← eval func X.env) [] (backTo pos (starEach (e :: es) X.env)) (backToKw pos (keywordEach [] X.env))) := by rfl)
    (he : starEach (e :: es) X.env = (false, eval e X.env) :: starEach es X.env := by rfl)
    (hpl : (backTo pos (starEach es X.env)).any (·.1) = false := by rfl) : PE X (.Call func (e :: es) [] pos) (tCallV X CX tf E t) := by
  constructor
  intro pins s σ H Q I h
  refine Call_ (thn (hf.run pins s σ H _ I h) ?_) hq
  rintro u s1 ⟨x, H1, I1, rx, f, rfl, hk, h1⟩
  cases rx
  refine PySem.W.callWith_K (h₀ := X.base) I1.ok.mod.kin hk (thn (ha.run pos pins s1 σ H1 _ I1 h1) ?_) he hpl
  rintro us s2 ⟨vs, H2, I2, r, fd, ps, sp, k, F, hr, hb, q⟩
  exact ⟨I2.kIn, run_fn (dvs := []) (ds := []) F hr hb .nil hx I2 r (by rw [List.append_nil]; exact q)⟩

/-- a written dict with whole numbers as keys -/
def IntKeys (es : Array DictEntry) : Prop := ∀ e ∈ es, ∃ k t, e.key = .int k t ∧ e.hash = hashInt k
def rKI (K : PySem.W.Frag) : R2 := fun x y H Q => ∃ (d : Addr) (es : Array DictEntry) (n : Nat) (i : Int) (u : Value) (v : V),
  x = .ref d ∧ y = .int i ∧ K.lookup d = some ⟨.type "dict", none, .dict es n, #[]⟩ ∧ IntKeys es ∧ findBy Value.isInt es i = some u ∧ RelV v u ∧ Q v H
theorem ix_ki : IxR X (rKI X.K) := by
  intro value slice pins s σ H x y v u Q I rx ry h hs
  obtain ⟨d, es, n, i, u0, v0, rfl, rfl, hl, hk, hf, r, q⟩ := h
  cases rx
  obtain ⟨t, rfl⟩ := ry
  have hm : s.heap.MapOf (intKind X.prog X.w) d (fun k => findBy Value.isInt es k) :=
    ⟨_, es, n, I.kIn _ _ hl, ⟨rfl, rfl, rfl⟩, rfl, fun e he => by
      obtain ⟨k, t, e1, e2⟩ := hk e he
      exact ⟨k, by rw [e1]; exact intKind_is X.prog X.w k t, e2⟩, fun _ => rfl⟩
  exact PyProof.Rows.tail_any hm.typeIs slot_dict_getitem.lookup (wpAny_getItem_of (intKind_is X.prog X.w i t) hm hf ⟨v0, H, I.tok _, r, q⟩) hs
end
end WK

/- WkB -/
/-! What a reading comes to, in short words. -/
namespace WK
open PySem PySem.Spec PyProof.Rows L2

/-- what stands as long as what is tracked stands -/
class Mono (P : V → Hp → Prop) : Prop where
  mono : ∀ {v : V} {H H' : Hp}, Same H H' → P v H → P v H'
class MonoA (P : List V → Hp → Prop) : Prop where
  mono : ∀ {v : List V} {H H' : Hp}, Same H H' → P v H → P v H'

def IsV (x : V) : V → Hp → Prop := fun v _ => v = x
instance (x : V) : Mono (IsV x) := ⟨fun _ h => h⟩
def AN : List V → Hp → Prop := fun vs _ => vs = []
def AC (P : V → Hp → Prop) (A : List V → Hp → Prop) : List V → Hp → Prop := fun vs H => ∃ v r, vs = v :: r ∧ P v H ∧ A r H
instance : MonoA AN := ⟨fun _ h => h⟩
instance (P : V → Hp → Prop) (A : List V → Hp → Prop) [Mono P] [MonoA A] : MonoA (AC P A) :=
  ⟨fun e ⟨v, r, a, b, c⟩ => ⟨v, r, a, Mono.mono e b, MonoA.mono e c⟩⟩
/-- one for one -/
def Each {α : Type} (R : α → V → Hp → Prop) : List α → List V → Hp → Prop
  | [], [], _ => True
  | x :: xs, v :: vs, H => R x v H ∧ Each R xs vs H
  | _, _, _ => False
theorem Each.mono {α : Type} {R : α → V → Hp → Prop} [h : ∀ x, Mono (R x)] {H H' : Hp} (e : Same H H') : ∀ {xs : List α} {vs : List V}, Each R xs vs H → Each R xs vs H'
  | [], [], _ => trivial
  | _ :: _, _ :: _, ⟨a, b⟩ => ⟨(h _).mono e a, Each.mono e b⟩
  | [], _ :: _, q => q
  | _ :: _, [], q => q
instance {α : Type} (R : α → V → Hp → Prop) [∀ x, Mono (R x)] (xs : List α) : MonoA (fun vs H => Each R xs vs H) := ⟨fun e h => Each.mono e h⟩
theorem Each.length {α : Type} {R : α → V → Hp → Prop} {H : Hp} : ∀ {xs : List α} {vs : List V}, Each R xs vs H → vs.length = xs.length
  | [], [], _ => rfl
  | _ :: _, _ :: _, ⟨_, b⟩ => congrArg Nat.succ (Each.length b)
  | [], _ :: _, q => q.elim
  | _ :: _, [], q => q.elim
theorem Each.get {α : Type} {R : α → V → Hp → Prop} {H : Hp} : ∀ {xs : List α} {vs : List V} {i : Nat} {x : α}, Each R xs vs H → xs[i]? = some x → ∃ v, vs[i]? = some v ∧ R x v H
  | [], _, i, x, _, h => by simp at h
  | y :: xs, v :: vs, 0, x, q, h => by
    have e : y = x := by simpa using h
    subst e
    exact ⟨v, rfl, q.1⟩
  | y :: xs, v :: vs, i + 1, x, q, h => by
    obtain ⟨u, a, b⟩ := Each.get (i := i) (x := x) q.2 (by simpa using h)
    exact ⟨u, by simpa using a, b⟩
  | _ :: _, [], _, _, q, _ => q.elim
theorem Each.back {α : Type} {R : α → V → Hp → Prop} {H : Hp} {xs : List α} {vs : List V} {i : Nat} {v : V} (q : Each R xs vs H) (h : vs[i]? = some v) : ∃ x, xs[i]? = some x ∧ R x v H := by
  have hi : i < xs.length := by rw [← q.length]; exact (List.getElem?_eq_some_iff.mp h).1
  obtain ⟨u, a, b⟩ := q.get (List.getElem?_eq_getElem hi)
  rw [h] at a
  cases a
  exact ⟨_, List.getElem?_eq_getElem hi, b⟩
theorem Each.snoc {α : Type} {R : α → V → Hp → Prop} {H : Hp} {x : α} {v : V} (b : R x v H) : ∀ {xs : List α} {vs : List V}, Each R xs vs H → Each R (xs ++ [x]) (vs ++ [v]) H
  | [], [], _ => ⟨b, trivial⟩
  | _ :: _, _ :: _, ⟨a, q⟩ => ⟨a, Each.snoc b q⟩
  | [], _ :: _, q => q.elim
  | _ :: _, [], q => q.elim
theorem Each.append {α : Type} {R : α → V → Hp → Prop} {H : Hp} {ys : List α} {us : List V} (b : Each R ys us H) : ∀ {xs : List α} {vs : List V}, Each R xs vs H → Each R (xs ++ ys) (vs ++ us) H
  | [], [], _ => b
  | _ :: _, _ :: _, ⟨a, q⟩ => ⟨a, Each.append b q⟩
  | [], _ :: _, q => q.elim
  | _ :: _, [], q => q.elim
theorem Each.take {α : Type} {R : α → V → Hp → Prop} {H : Hp} : ∀ (n : Nat) {xs : List α} {vs : List V}, Each R xs vs H → Each R (xs.take n) (vs.take n) H
  | 0, _, _, _ => trivial
  | n + 1, [], [], _ => trivial
  | n + 1, _ :: _, _ :: _, ⟨a, q⟩ => ⟨a, Each.take n q⟩
  | n + 1, [], _ :: _, q => q.elim
  | n + 1, _ :: _, [], q => q.elim
theorem Each.drop {α : Type} {R : α → V → Hp → Prop} {H : Hp} : ∀ (n : Nat) {xs : List α} {vs : List V}, Each R xs vs H → Each R (xs.drop n) (vs.drop n) H
  | 0, _, _, q => q
  | n + 1, [], [], _ => trivial
  | n + 1, _ :: _, _ :: _, ⟨_, q⟩ => Each.drop n q
  | n + 1, [], _ :: _, q => q.elim
  | n + 1, _ :: _, [], q => q.elim
theorem Each.imp {α β : Type} {R : α → V → Hp → Prop} {S : β → V → Hp → Prop} {f : α → β} {H : Hp} (h : ∀ x v, R x v H → S (f x) v H) : ∀ {xs : List α} {vs : List V}, Each R xs vs H → Each S (xs.map f) vs H
  | [], [], _ => trivial
  | _ :: _, _ :: _, ⟨a, q⟩ => ⟨h _ _ a, Each.imp h q⟩
  | [], _ :: _, q => q.elim
  | _ :: _, [], q => q.elim

/-- a whole number; a list of whole numbers; a tuple of them; a list of truth values; a list of things -/
abbrev IsN (n : Int) : V → Hp → Prop := IsV (.int n)
abbrev IsB (b : Bool) : V → Hp → Prop := IsV (.bl b)
def IsTs (ns : List Int) : V → Hp → Prop := fun v H => ∃ p, v = .ref p ∧ H p = some (.tup (ns.map V.int))
def IsL {α : Type} (R : α → V → Hp → Prop) (xs : List α) : V → Hp → Prop := fun v H => ∃ p vs, v = .ref p ∧ H p = some (.lst vs) ∧ Each R xs vs H
def IsP (p : Addr) (vs : List V) : V → Hp → Prop := fun v H => v = .ref p ∧ H p = some (.lst vs)
instance (ns : List Int) : Mono (IsTs ns) := ⟨fun e ⟨p, a, b⟩ => ⟨p, a, e _ _ b⟩⟩
instance {α : Type} (R : α → V → Hp → Prop) [∀ x, Mono (R x)] (xs : List α) : Mono (IsL R xs) := ⟨fun e ⟨p, vs, a, b, c⟩ => ⟨p, vs, a, e _ _ b, Each.mono e c⟩⟩
instance (p : Addr) (vs : List V) : Mono (IsP p vs) := ⟨fun e ⟨a, b⟩ => ⟨a, e _ _ b⟩⟩
def RN (n : Int) : V → Hp → Prop := IsN n
instance (n : Int) : Mono (RN n) := ⟨fun _ h => h⟩
def RB (n : Bool) : V → Hp → Prop := IsB n
instance (n : Bool) : Mono (RB n) := ⟨fun _ h => h⟩
abbrev IsIs (ns : List Int) : V → Hp → Prop := IsL RN ns
abbrev IsBs (bs : List Bool) : V → Hp → Prop := IsL RB bs
theorem each_ints {H : Hp} : ∀ {ns : List Int} {vs : List V}, Each RN ns vs H ↔ vs = ns.map V.int
  | [], [] => by simp [Each]
  | n :: ns, v :: vs => by
    show (v = .int n ∧ Each RN ns vs H) ↔ _
    rw [each_ints, List.map_cons, List.cons.injEq]
  | [], _ :: _ => by simp [Each]
  | _ :: _, [] => by simp [Each]
theorem each_bools {H : Hp} : ∀ {ns : List Bool} {vs : List V}, Each RB ns vs H ↔ vs = ns.map V.bl
  | [], [] => by simp [Each]
  | n :: ns, v :: vs => by
    show (v = .bl n ∧ Each RB ns vs H) ↔ _
    rw [each_bools, List.map_cons, List.cons.injEq]
  | [], _ :: _ => by simp [Each]
  | _ :: _, [] => by simp [Each]
theorem isIs_iff {ns : List Int} {v : V} {H : Hp} : IsIs ns v H ↔ ∃ p, v = .ref p ∧ H p = some (.lst (ns.map V.int)) := by
  constructor
  · rintro ⟨p, vs, a, b, c⟩
    exact ⟨p, a, by rw [b, each_ints.mp c]⟩
  · rintro ⟨p, a, b⟩
    exact ⟨p, _, a, b, each_ints.mpr rfl⟩
theorem isBs_iff {ns : List Bool} {v : V} {H : Hp} : IsBs ns v H ↔ ∃ p, v = .ref p ∧ H p = some (.lst (ns.map V.bl)) := by
  constructor
  · rintro ⟨p, vs, a, b, c⟩
    exact ⟨p, a, by rw [b, each_bools.mp c]⟩
  · rintro ⟨p, a, b⟩
    exact ⟨p, _, a, b, each_bools.mpr rfl⟩
theorem isIs_mk {ns : List Int} {p : Addr} {H : Hp} (h : H p = some (.lst (ns.map V.int))) : IsIs ns (.ref p) H := isIs_iff.mpr ⟨p, rfl, h⟩

theorem Same.new {H : Hp} {p : Addr} {o : HO} (h : H p = none) : Same H (upd H p o) := fun a u e => by
  rw [upd_ne (ne_of_none e h)]
  exact e
/-- a new thing is changed: what was there before stands -/
theorem Same.mut {H H' : Hp} {p : Addr} {o : HO} (e : Same H H') (h : H p = none) : Same H (upd H' p o) := fun a u ha => by
  rw [upd_ne (ne_of_none ha h)]
  exact e _ _ ha

/-! ### the judgement -/
def Y (te : TE) (σ : L2.St) (H : Hp) (P : V → Hp → Prop) : Prop := ∀ H1, Same H H1 → ∀ Q : VK, (∀ v H2, Same H1 H2 → P v H2 → Q v H2) → te σ H1 Q
def YT (tt : TT) (σ : L2.St) (H : Hp) (b : Bool) : Prop := ∀ H1, Same H H1 → ∀ Q : Bool → Hp → Prop, (∀ H2, Same H1 H2 → Q b H2) → tt σ H1 Q
def YA (ta : TA) (σ : L2.St) (H : Hp) (A : List V → Hp → Prop) : Prop := ∀ H1, Same H H1 → ∀ Q : List V → Hp → Prop, (∀ vs H2, Same H1 H2 → A vs H2 → Q vs H2) → ta σ H1 Q
section
variable {σ : L2.St} {H : Hp} {te ta tb tc : TE} {P P1 P2 : V → Hp → Prop} {A : List V → Hp → Prop} {K : PySem.W.Frag}
theorem Y.up (h : Y te σ H P) {H' : Hp} (e : Same H H') : Y te σ H' P := fun H1 e1 Q q => h H1 (e.trans e1) Q q
theorem Y.imp (h : Y te σ H P1) (k : ∀ v H', Same H H' → P1 v H' → P2 v H') : Y te σ H P2 := fun H1 e1 Q q => h H1 e1 Q fun v H2 e2 p => q v H2 e2 (k v H2 (e1.trans e2) p)
theorem y_var {i : Nat} {v : V} (h : σ[i]? = some (some v)) [m : Mono P] (p : P v H) : Y (tVar i) σ H P := fun H1 e Q q => ⟨v, h, q v H1 (Same.refl _) (m.mono e p)⟩
theorem y_val {i : Nat} {v : V} (h : σ[i]? = some (some v)) : Y (tVar i) σ H (IsV v) := fun H1 e Q q => ⟨v, h, q v H1 (Same.refl _) rfl⟩
theorem y_c {x : V} : Y (tC x) σ H (IsV x) := fun H1 e Q q => q x H1 (Same.refl _) rfl
theorem y_fld {a C dx : Addr} {fs : List (Str × V)} {f : Str} {v : V} (h : Y ta σ H (IsV (.ref a))) (ho : H a = some (.ins C dx fs)) (hc : Cls K C) (hn : NoAttr K C f) (hl : fs.lookup f = some v) [m : Mono P] (p : P v H) : Y (tFld K ta f) σ H P :=
  fun H1 e Q q => h H1 e _ fun u H2 e2 hu => by
    cases hu
    exact ⟨a, C, dx, fs, v, rfl, e2 _ _ (e _ _ ho), hc, hn, hl, q v H2 e2 (m.mono (e.trans e2) p)⟩
/-- two whole numbers -/
theorem y_I0 {g : Int → Int → V} {i j : Int} (ha : Y ta σ H (IsN i)) (hb : Y tb σ H (IsN j)) : Y (tOp (rI0 g) ta tb) σ H (IsV (g i j)) := fun H1 e Q q =>
  ha H1 e _ fun x H2 e2 hx => hb H2 (e.trans e2) _ fun y H3 e3 hy => ⟨i, j, hx, hy, q _ H3 (e2.trans e3) rfl⟩
theorem y_I {C : Int → Int → Prop} {g : Int → Int → V} {i j : Int} (ha : Y ta σ H (IsN i)) (hb : Y tb σ H (IsN j)) (hc : C i j) : Y (tOp (rI C g) ta tb) σ H (IsV (g i j)) := fun H1 e Q q =>
  ha H1 e _ fun x H2 e2 hx => hb H2 (e.trans e2) _ fun y H3 e3 hy => ⟨i, j, hx, hy, hc, q _ H3 (e2.trans e3) rfl⟩
theorem y_un {g : Int → V} {i : Int} (ha : Y ta σ H (IsN i)) : Y (tUn (rU g) ta) σ H (IsV (g i)) := fun H1 e Q q =>
  ha H1 e _ fun x H2 e2 hx => ⟨i, hx, q _ H2 e2 rfl⟩
theorem y_eq {x y : V} (ha : Y ta σ H (IsV x)) (hb : Y tb σ H (IsV y)) (hs : scal x y = true) : Y (tOp rEq ta tb) σ H (IsB (decide (x = y))) := fun H1 e Q q =>
  ha H1 e _ fun u H2 e2 hx => hb H2 (e.trans e2) _ fun w H3 e3 hy => by
    cases hx
    cases hy
    exact ⟨hs, q _ H3 (e2.trans e3) rfl⟩
theorem y_ne {x y : V} (ha : Y ta σ H (IsV x)) (hb : Y tb σ H (IsV y)) (hs : scal x y = true) : Y (tOp rNe ta tb) σ H (IsB (!decide (x = y))) := fun H1 e Q q =>
  ha H1 e _ fun u H2 e2 hx => hb H2 (e.trans e2) _ fun w H3 e3 hy => by
    cases hx
    cases hy
    exact ⟨hs, q _ H3 (e2.trans e3) rfl⟩
theorem y_is {x : V} {b : Bool} (h : Y te σ H (IsV x)) (e : x = .bl b) : Y te σ H (IsB b) := by
  subst e
  exact h
theorem Y.to {x y : V} (h : Y te σ H (IsV x)) (e : x = y) : Y te σ H (IsV y) := by
  subst e
  exact h
theorem y_isN {x : V} (h : Y ta σ H (IsV x)) : Y (tIsN ta) σ H (IsB (decide (x = .non))) := fun H1 e Q q =>
  h H1 e _ fun u H2 e2 hx => by
    cases hx
    exact q _ H2 e2 rfl
theorem y_notN {x : V} (h : Y ta σ H (IsV x)) : Y (tNotN ta) σ H (IsB (!decide (x = .non))) := fun H1 e Q q =>
  h H1 e _ fun u H2 e2 hx => by
    cases hx
    exact q _ H2 e2 rfl
/-- a <= b <= c -/
theorem y_chain {p p' : Int → Int → Bool} {i j k : Int} (ha : Y ta σ H (IsN i)) (hb : Y tb σ H (IsN j)) (hc : Y tc σ H (IsN k)) :
    Y (tChain (rI0 fun i j => .bl (p i j)) (rI0 fun i j => .bl (p' i j)) ta tb tc) σ H (IsB (p i j && p' j k)) := fun H1 e Q q =>
  ha H1 e _ fun x H2 e2 hx => hb H2 (e.trans e2) _ fun y H3 e3 hy => by
    cases hx
    cases hy
    refine ⟨i, j, rfl, rfl, p i j, rfl, ?_⟩
    by_cases c : p i j = true
    · rw [if_pos c]
      refine hc H3 ((e.trans e2).trans e3) _ fun z H4 e4 hz => ?_
      cases hz
      refine ⟨j, k, rfl, rfl, q _ H4 ((e2.trans e3).trans e4) ?_⟩
      rw [c]
      rfl
    · rw [if_neg c]
      refine q _ H3 (e2.trans e3) ?_
      rw [Bool.eq_false_iff.mpr c]
      rfl
theorem y_andV {a b : Bool} (h1 : Y ta σ H (IsB a)) (h2 : a = true → Y tb σ H (IsB b)) : Y (tAndV ta tb) σ H (IsB (a && b)) := fun H1 e Q q =>
  h1 H1 e _ fun x H2 e2 hx => by
    cases hx
    refine ⟨a, rfl, ?_⟩
    cases a with
    | true =>
      rw [if_pos rfl]
      exact h2 rfl H2 (e.trans e2) _ fun y H3 e3 hy => q y H3 (e2.trans e3) hy
    | false =>
      rw [if_neg Bool.false_ne_true]
      exact q _ H2 e2 rfl
theorem yt_test {b : Bool} (h : Y te σ H (IsB b)) : YT (tTest te) σ H b := fun H1 e Q q => h H1 e _ fun x H2 e2 hx => by
  cases hx
  exact ⟨b, rfl, q H2 e2⟩
theorem yt_B {b : Bool} (h : Y te σ H (IsB b)) : YT (tB te) σ H b := fun H1 e Q q => h H1 e _ fun x H2 e2 hx => by
  cases hx
  exact ⟨b, rfl, q H2 e2⟩
theorem yt_not {t : TT} {b : Bool} (h : YT t σ H b) : YT (tNot t) σ H (!b) := fun H1 e Q q => h H1 e _ fun H2 e2 => q H2 e2
theorem yt_and {t u : TT} {a b : Bool} (h1 : YT t σ H a) (h2 : a = true → YT u σ H b) : YT (tAnd t u) σ H (a && b) := fun H1 e Q q => h1 H1 e _ fun H2 e2 => by
  cases a with
  | true =>
    rw [if_pos rfl]
    exact h2 rfl H2 (e.trans e2) _ fun H3 e3 => q H3 (e2.trans e3)
  | false =>
    rw [if_neg Bool.false_ne_true]
    exact q H2 e2
theorem yt_or {t u : TT} {a b : Bool} (h1 : YT t σ H a) (h2 : a = false → YT u σ H b) : YT (tOr t u) σ H (a || b) := fun H1 e Q q => h1 H1 e _ fun H2 e2 => by
  cases a with
  | true =>
    rw [if_pos rfl]
    exact q H2 e2
  | false =>
    rw [if_neg Bool.false_ne_true]
    exact h2 rfl H2 (e.trans e2) _ fun H3 e3 => q H3 (e2.trans e3)
theorem YT.to {t : TT} {a b : Bool} (h : YT t σ H a) (e : a = b) : YT t σ H b := by
  subst e
  exact h
theorem y_ifE {t : TT} {b : Bool} (h : YT t σ H b) (h1 : b = true → Y ta σ H P) (h2 : b = false → Y tb σ H P) : Y (tIf t ta tb) σ H P := fun H1 e Q q => h H1 e _ fun H2 e2 => by
  cases b with
  | true =>
    rw [if_pos rfl]
    exact h1 rfl H2 (e.trans e2) _ fun v H3 e3 p => q v H3 (e2.trans e3) p
  | false =>
    rw [if_neg Bool.false_ne_true]
    exact h2 rfl H2 (e.trans e2) _ fun v H3 e3 p => q v H3 (e2.trans e3) p
/-! arguments, displays, calls -/
theorem ya_nil : YA tNil σ H AN := fun H1 e Q q => q _ H1 (Same.refl _) rfl
theorem ya_cons {tr : TA} (h : Y te σ H P) (hr : YA tr σ H A) [m : Mono P] : YA (tCons te tr) σ H (AC P A) := fun H1 e Q q =>
  h H1 e _ fun v H2 e2 p => hr H2 (e.trans e2) _ fun vs H3 e3 a => q _ H3 (e2.trans e3) ⟨v, vs, rfl, m.mono e3 p, a⟩
theorem YA.imp {ta : TA} {B : List V → Hp → Prop} (h : YA ta σ H A) (k : ∀ vs H', Same H H' → A vs H' → B vs H') : YA ta σ H B := fun H1 e1 Q q => h H1 e1 Q fun v H2 e2 p => q v H2 e2 (k v H2 (e1.trans e2) p)
/-- [a, b, ..] -/
theorem y_lst {ta : TA} (h : YA ta σ H A) [MonoA A] (hl : ∀ vs H', A vs H' → vs.length ≤ 1000) (hp : ∀ vs p H', A vs H' → H' p = some (.lst vs) → P (.ref p) H') : Y (tLst ta) σ H P := fun H1 e Q q =>
  h H1 e _ fun vs H2 e2 a => ⟨Nat.le_trans (hl _ _ a) (by decide), fun p np => q _ _ (e2.trans (Same.new np)) (hp vs p _ (MonoA.mono (Same.new np) a) upd_same)⟩
/-- (a, b, ..) -/
theorem y_tup {ta : TA} (h : YA ta σ H A) [MonoA A] (hl : ∀ vs H', A vs H' → vs.length ≤ 1000) (hp : ∀ vs p H', A vs H' → H' p = some (.tup vs) → P (.ref p) H') : Y (tTup ta) σ H P := fun H1 e Q q =>
  h H1 e _ fun vs H2 e2 a => ⟨Nat.le_trans (hl _ _ a) (by decide), fun p np => q _ _ (e2.trans (Same.new np)) (hp vs p _ (MonoA.mono (Same.new np) a) upd_same)⟩
theorem y_list0 : Y (tLst tNil) σ H (IsIs []) := y_lst ya_nil (fun vs H' a => by rw [a]; decide) fun vs p H' a hp => isIs_mk (by rw [hp, a]; rfl)
theorem y_list1 {n : Int} (h : Y te σ H (IsN n)) : Y (tLst (tCons te tNil)) σ H (IsIs [n]) := y_lst (ya_cons h ya_nil) (fun vs H' ⟨v, r, a, b, c⟩ => by rw [a, c]; show 1 ≤ 1000; decide) fun vs p H' ⟨v, r, a, b, c⟩ hp => isIs_mk (by rw [hp, a, b, c]; rfl)
theorem y_list2 {n m : Int} (h : Y ta σ H (IsN n)) (k : Y tb σ H (IsN m)) : Y (tLst (tCons ta (tCons tb tNil))) σ H (IsIs [n, m]) := y_lst (ya_cons h (ya_cons k ya_nil)) (fun vs H' ⟨v, r, a, b, v2, r2, c, d, e⟩ => by rw [a, c, e]; show 2 ≤ 1000; decide) fun vs p H' ⟨v, r, a, b, v2, r2, c, d, e⟩ hp => isIs_mk (by rw [hp, a, b, c, d, e]; rfl)
theorem y_list3 {n m k : Int} (h : Y ta σ H (IsN n)) (h2 : Y tb σ H (IsN m)) (h3 : Y tc σ H (IsN k)) : Y (tLst (tCons ta (tCons tb (tCons tc tNil)))) σ H (IsIs [n, m, k]) := y_lst (ya_cons h (ya_cons h2 (ya_cons h3 ya_nil))) (fun vs H' ⟨v, r, a, b, v2, r2, c, d, v3, r3, e, f, g⟩ => by rw [a, c, e, g]; show 3 ≤ 1000; decide) fun vs p H' ⟨v, r, a, b, v2, r2, c, d, v3, r3, e, f, g⟩ hp => isIs_mk (by rw [hp, a, b, c, d, e, f, g]; rfl)
/-- a built-in's call by values -/
theorem y_cb {r : List V → Hp → VK → Prop} {ta : TA} (h : YA ta σ H A) (hr : ∀ vs H1, Same H H1 → A vs H1 → ∀ Q : VK, (∀ v H2, Same H1 H2 → P v H2 → Q v H2) → r vs H1 Q) : Y (tCB r ta) σ H P := fun H1 e Q q =>
  h H1 e _ fun vs H2 e2 a => hr vs H2 (e.trans e2) a Q fun v H3 e3 p => q v H3 (e2.trans e3) p
/-- the promise of a def that leaves what stood as it was -/
def SpF {α : Type} (Pre : α → Prop) (In : α → List V → Hp → Prop) (Out : α → V → Hp → Prop) : Sp := fun vs H Q _ => ∃ a, Pre a ∧ In a vs H ∧ ∀ v H', Same H H' → Out a v H' → Q v H'
theorem y_call {α : Type} {Pre : α → Prop} {In : α → List V → Hp → Prop} {Out : α → V → Hp → Prop} {E : XK} {ta : TA} (a : α) (hp : Pre a) (h : YA ta σ H (In a)) : Y (tCall (SpF Pre In Out) [] E ta) σ H (Out a) := fun H1 e Q q =>
  h H1 e _ fun vs H2 e2 i => ⟨a, hp, by rw [List.append_nil]; exact i, fun v H3 e3 o => q v H3 (e2.trans e3) o⟩
theorem y_meth {α : Type} {Pre : α → Prop} {In : α → List V → Hp → Prop} {Out : α → V → Hp → Prop} {E : XK} {te : TE} {ta : TA} {C a dx : Addr} {fs : List (Str × V)} {m : Str} (x : α) (hp : Pre x) (ho : Y te σ H (IsV (.ref a))) (hi : H a = some (.ins C dx fs)) (hf : fs.lookup m = none)
    (h : YA ta σ H A) (hin : ∀ vs H', Same H H' → A vs H' → In x (.ref a :: vs) H') : Y (tMeth C m (SpF Pre In Out) [] E te ta) σ H (Out x) := fun H1 e Q q =>
  ho H1 e _ fun u H2 e2 hu => by
    cases hu
    refine ⟨a, dx, fs, rfl, e2 _ _ (e _ _ hi), hf, ?_⟩
    refine h H2 (e.trans e2) _ fun vs H3 e3 i => ⟨x, hp, ?_, fun v H4 e4 o => q v H4 ((e2.trans e3).trans e4) o⟩
    have := hin vs H3 ((e.trans e2).trans e3) i
    simpa using this
/-! indexes and slices -/
theorem y_ixL {p : Addr} {vs : List V} {i : Int} {v : V} (ha : Y ta σ H (IsP p vs)) (hb : Y tb σ H (IsN i)) (h : atI vs i = some v) [m : Mono P] (hp : P v H) : Y (tOp (rIxL K) ta tb) σ H P := fun H1 e Q q =>
  ha H1 e _ fun x H2 e2 hx => hb H2 (e.trans e2) _ fun y H3 e3 hy => by
    obtain ⟨hx1, hx2⟩ := hx
    exact ⟨p, vs, i, v, hx1, hy, SqL.of (e3 _ _ hx2), h, q v H3 (e2.trans e3) (m.mono ((e.trans e2).trans e3) hp)⟩
theorem atI_map {δ ε : Type} (f : δ → ε) {xs : List δ} {j : Int} {k : δ} (h : atI xs j = some k) : atI (xs.map f) j = some (f k) := by
  unfold atI at h ⊢
  rw [List.length_map]
  cases e : ixN xs.length j with
  | none =>
    rw [e] at h
    cases h
  | some i =>
    rw [e] at h
    show (xs.map f)[i]? = _
    rw [List.getElem?_map, show xs[i]? = some k from h]
    rfl
theorem atI_neg1 {ns : List Int} (h : ns ≠ []) : atI ns (-1) = some (ns.getLastD 0) := by
  have e : ns = ns.dropLast ++ [ns.getLastD 0] := by
    rw [List.getLastD_eq_getLast?, List.getLast?_eq_some_getLast h]
    exact (List.dropLast_concat_getLast h).symm
  conv => lhs; rw [e]
  exact atI_last _ _
theorem y_ixT {ns : List Int} {i n : Int} (ha : Y ta σ H (IsTs ns)) (hb : Y tb σ H (IsN i)) (h : atI ns i = some n) : Y (tOp (rIxT K) ta tb) σ H (IsN n) := fun H1 e Q q =>
  ha H1 e _ fun x H2 e2 ⟨p, hx1, hx2⟩ => hb H2 (e.trans e2) _ fun y H3 e3 hy => ⟨p, _, i, _, hx1, hy, SqT.of (e3 _ _ hx2), atI_map V.int h, q _ H3 (e2.trans e3) rfl⟩
theorem y_ixI {ns : List Int} {i n : Int} (ha : Y ta σ H (IsIs ns)) (hb : Y tb σ H (IsN i)) (h : atI ns i = some n) : Y (tOp (rIxL K) ta tb) σ H (IsN n) := fun H1 e Q q =>
  ha H1 e _ fun x H2 e2 hx => hb H2 (e.trans e2) _ fun y H3 e3 hy => by
    obtain ⟨p, hx1, hx2⟩ := isIs_iff.mp hx
    exact ⟨p, _, i, _, hx1, hy, SqL.of (e3 _ _ hx2), atI_map V.int h, q _ H3 (e2.trans e3) rfl⟩
theorem y_ixR {α : Type} {R : α → V → Hp → Prop} [∀ x, Mono (R x)] {xs : List α} {i : Nat} {z : Int} {x : α} (ha : Y ta σ H (IsL R xs)) (hb : Y tb σ H (IsN z)) (hz : z = (i : Int)) (h : xs[i]? = some x) : Y (tOp (rIxL K) ta tb) σ H (R x) := fun H1 e Q q =>
  ha H1 e _ fun u H2 e2 ⟨p, vs, hx1, hx2, hx3⟩ => hb H2 (e.trans e2) _ fun y H3 e3 hy => by
    obtain ⟨v, hv, hr⟩ := hx3.get h
    subst hz
    exact ⟨p, vs, _, v, hx1, hy, SqL.of (e3 _ _ hx2), atI_nat hv, q _ H3 (e2.trans e3) (Mono.mono e3 hr)⟩
end

/-! ### statements -/
section
variable {σ : L2.St} {H : Hp} {te tl : TE} {P : V → Hp → Prop} {D : Ends} {u t : TS} {K : PySem.W.Frag}
theorem s_set {i : Nat} (h : Y te σ H P) (k : ∀ v H1, Same H H1 → P v H1 → u D (σ.set i (some v)) H1) : tSeq (tAsg te (gName i)) u D σ H :=
  h H (Same.refl _) _ fun v H1 e p => k v H1 e p
theorem s_set1 {i : Nat} (h : Y te σ H P) (k : ∀ v H1, Same H H1 → P v H1 → D.nx (σ.set i (some v)) H1) : tAsg te (gName i) D σ H :=
  h H (Same.refl _) _ fun v H1 e p => k v H1 e p
theorem s_ret (h : Y te σ H P) (k : ∀ v H1, Same H H1 → P v H1 → D.rt v H1) : tRet te D σ H := h H (Same.refl _) _ fun v H1 e p => k v H1 e p
theorem s_if {c : TT} {b : Bool} (h : YT c σ H b) (h1 : b = true → ∀ H1, Same H H1 → t { D with nx := u D } σ H1) (h2 : b = false → ∀ H1, Same H H1 → u D σ H1) : tSeq (tIfS c t tNext) u D σ H :=
  h H (Same.refl _) _ fun H1 e => by
    cases b with
    | true =>
      rw [if_pos rfl]
      exact h1 rfl H1 e
    | false =>
      rw [if_neg Bool.false_ne_true]
      exact h2 rfl H1 e
theorem s_if1 {c : TT} {b : Bool} (h : YT c σ H b) (h1 : b = true → ∀ H1, Same H H1 → t D σ H1) (h2 : b = false → ∀ H1, Same H H1 → D.nx σ H1) : tIfS c t tNext D σ H :=
  h H (Same.refl _) _ fun H1 e => by
    cases b with
    | true =>
      rw [if_pos rfl]
      exact h1 rfl H1 e
    | false =>
      rw [if_neg Bool.false_ne_true]
      exact h2 rfl H1 e
end
end WK

/- WkC -/
/-! What the program's top has written. -/
namespace WK
open PySem PySem.Spec PyProof.Rows L2

/-- the i-th statement of the program -/
def top (i : Nat) : Stmt := PySem.Challenge.pw_cornerbounds_s01_answers.main.body.getD i (.Pass ⟨0, 0, 0, 0⟩)
/-- a def of the top -/
structure DefAt (K : PySem.W.Frag) (mg : Str → Option Value) (x : Str) (st : Stmt) (ps : List Str) : Prop where
  ex : ∃ f fd, mg x = some (.ref f) ∧ Fun K x x st f fd ∧ Binds K fd ps []
structure MethAt (K : PySem.W.Frag) (C : Addr) (m qual : Str) (st : Stmt) (ps : List Str) : Prop where
  ex : ∃ f fd, Meth K C m f ∧ Fun K m qual st f fd ∧ Binds K fd ps []
structure InitAt (K : PySem.W.Frag) (C : Addr) (qual : Str) (st : Stmt) (ps : List Str) : Prop where
  ex : ∃ f fd, Mk K C f ∧ Fun K "__init__" qual st f fd ∧ Binds K fd ps []
/-- a def that keeps its promise -/
structure Dk (P : Program) (w : World) (K : PySem.W.Frag) (mg : Str → Option Value) (base : Heap) (k : Nat) (x : Str) (ps : List Str) (sp : Sp) : Prop where
  ex : ∃ f fd, mg x = some (.ref f) ∧ PySem.W.keepIn K (.ref f) = true ∧ FnOk P w K mg base CX0 k f fd ps sp ∧ Binds K fd ps []
structure Dm (P : Program) (w : World) (K : PySem.W.Frag) (mg : Str → Option Value) (base : Heap) (k : Nat) (C : Addr) (m : Str) (ps : List Str) (sp : Sp) : Prop where
  ex : ∃ f fd, Meth K C m f ∧ FnOk P w K mg base CX0 k f fd ps sp ∧ Binds K fd ps []
structure Di (P : Program) (w : World) (K : PySem.W.Frag) (mg : Str → Option Value) (base : Heap) (k : Nat) (C : Addr) (ps : List Str) (sp : Sp) : Prop where
  ex : ∃ f fd, Mk K C f ∧ FnOk P w K mg base CX0 k f fd ps sp ∧ Binds K fd ps []
section
variable {P : Program} {w : World} {K : PySem.W.Frag} {mg : Str → Option Value} {base : Heap}
/-- a def by its body: a := what it is called with -/
theorem DefAt.ok {x : Str} {st : Stmt} {ps N : List Str} {k : Nat} {α : Type} {Pre : α → Prop} {In : α → List V → Hp → Prop} {Out : α → V → Hp → Prop} (D : DefAt K mg x st ps) (S : FnScope N ps (defScope st))
    (len : ∀ a vs H, In a vs H → vs.length = ps.length)
    (body : ∀ (f : Addr) (cdv : Value) (A : Around) (outer : List Env) (s : Shared) (H : Hp) (vs : List V) (E : XK) (a : α), Room k (A.deeper (envOfC x (defScope st) s.heap.objs.size f cdv)) → Pre a → In a vs H →
      ∃ t, PSs (cxOf CX0 P w K mg base N x (defScope st) f cdv A outer s H E).nox (defBody st) t ∧ ∀ Q : VK, (∀ v H', Same H H' → Out a v H' → Q v H') → t { nx := fun _ H' => Q .non H', rt := Q } (start N vs) H) :
    Dk P w K mg base (k + 1) x ps (SpF Pre In Out) := by
  obtain ⟨f, fd, hg, F, b⟩ := D.ex
  refine ⟨f, fd, hg, F.kp, F.ok S (fun vs H Q E ⟨a, _, i, _⟩ => len a vs H i) (fun cdv A outer s H vs Q E hr ⟨a, p, i, q⟩ => ?_), b⟩
  obtain ⟨t, h1, h2⟩ := body f cdv A outer s H vs E a hr p i
  exact ⟨t, h1, h2 Q q⟩
theorem MethAt.ok {C : Addr} {m qual : Str} {st : Stmt} {ps N : List Str} {k : Nat} {α : Type} {Pre : α → Prop} {In : α → List V → Hp → Prop} {Out : α → V → Hp → Prop} (D : MethAt K C m qual st ps) (S : FnScope N ps (defScope st))
    (len : ∀ a vs H, In a vs H → vs.length = ps.length)
    (body : ∀ (f : Addr) (cdv : Value) (A : Around) (outer : List Env) (s : Shared) (H : Hp) (vs : List V) (E : XK) (a : α), Room k (A.deeper (envOfC qual (defScope st) s.heap.objs.size f cdv)) → Pre a → In a vs H →
      ∃ t, PSs (cxOf CX0 P w K mg base N qual (defScope st) f cdv A outer s H E).nox (defBody st) t ∧ ∀ Q : VK, (∀ v H', Same H H' → Out a v H' → Q v H') → t { nx := fun _ H' => Q .non H', rt := Q } (start N vs) H) :
    Dm P w K mg base (k + 1) C m ps (SpF Pre In Out) := by
  obtain ⟨f, fd, hg, F, b⟩ := D.ex
  refine ⟨f, fd, hg, F.ok S (fun vs H Q E ⟨a, _, i, _⟩ => len a vs H i) (fun cdv A outer s H vs Q E hr ⟨a, p, i, q⟩ => ?_), b⟩
  obtain ⟨t, h1, h2⟩ := body f cdv A outer s H vs E a hr p i
  exact ⟨t, h1, h2 Q q⟩
/-- __init__ with three attributes, stored in the order of its parameters -/
def fs3 (a b c : Str) (x y z : V) : List (Str × V) := [(a, x), (b, y), (c, z)]
end
/-! what it calls -/
section
variable {X : Cx} {CX : CXT}
theorem Dk.call {k n : Nat} {x : Str} {ps : List Str} {sp : Sp} {e : Expr} {es : List Expr} {t : TA} {p pos : Pos} (D : Dk X.prog X.w X.K X.mg X.base k x ps sp) (hr : Room n X.A) (hk : k ≤ n) (hg : Gl X x) (ha : PA X (e :: es) t)
    (hdb : (x == ("__debug__" : Str)) = false := by decide) (he : starEach (e :: es) X.env = (false, eval e X.env) :: starEach es X.env := by rfl) (hpl : (backTo pos (starEach es X.env)).any (·.1) = false := by rfl) :
    PE X (.Call (.Name x p) (e :: es) [] pos) (tCall sp [] E0 t) := by
  obtain ⟨f, fd, hm, kp, F, b⟩ := D.ex
  exact pe_call F (hr.mono hk) hg hm kp b .nil pass0 ha hdb he hpl
theorem Dm.call {k n : Nat} {C : Addr} {m : Str} {ps : List Str} {sp : Sp} {o e : Expr} {es : List Expr} {t : TA} {to : TE} {apos pos : Pos} {pl : Sem Bool} (D : Dm X.prog X.w X.K X.mg X.base k C m ps sp) (hr : Room n X.A) (hk : k ≤ n) (c : Cls X.K C) (ho : PE X o to) (ha : PA X (e :: es) t)
    (hst : starEach (e :: es) X.env = (false, eval e X.env) :: starEach es X.env := by rfl) (hpl : (backTo pos (starEach es X.env)).any (·.1) = false := by rfl)
    (ht : eval (.Call (.Attribute o m apos) (e :: es) [] pos) X.env = (do
      let ov ← eval o X.env
      standAt apos.atName
      let (f, first) ← holding [ov] (getMethod ov m pl)
      callWith pos f first (backTo pos (starEach (e :: es) X.env)) (backToKw pos (keywordEach [] X.env))) := by rfl) :
    PE X (.Call (.Attribute o m apos) (e :: es) [] pos) (tMeth C m sp [] E0 to t) := by
  obtain ⟨f, fd, hm, F, b⟩ := D.ex
  exact pe_meth ho c hm F (hr.mono hk) b .nil pass0 ha hst hpl ht
theorem Di.call {k n : Nat} {C : Addr} {x : Str} {ps : List Str} {sp : Sp} {e : Expr} {es : List Expr} {t : TA} {p pos : Pos} (D : Di X.prog X.w X.K X.mg X.base k C ps sp) (hr : Room n X.A) (hk : k + 1 ≤ n) (hg : Gl X x) (hm : X.mg x = some (.ref C)) (ha : PA X (e :: es) t)
    (hdb : (x == ("__debug__" : Str)) = false := by decide) (he : starEach (e :: es) X.env = (false, eval e X.env) :: starEach es X.env := by rfl) (hpl : (backTo pos (starEach es X.env)).any (·.1) = false := by rfl) :
    PE X (.Call (.Name x p) (e :: es) [] pos) (tMake C sp [] E0 t) := by
  obtain ⟨f, fd, M, F, b⟩ := D.ex
  exact pe_make M F (hr.mono hk) hg hm b .nil pass0 ha hdb he hpl
end
/-- the operations' places in the table -/
def opsTable : List (Int × Str) := [(0, "create"), (1, "add_constraint"), (2, "remove_constraint"), (3, "set_objective"), (4, "set_cycle"), (5, "status"), (6, "optimum"), (7, "multipliers"), (8, "refutation"), (9, "ray"), (10, "corners"), (11, "is_feasible"), (12, "slack"), (13, "check_bound"), (14, "check_refutation"), (15, "check_ray"), (16, "check_optimum"), (17, "asymptotic"), (18, "balanced"), (19, "exact"), (20, "saturation"), (21, "exact_curve"), (22, "summary")]
structure OpsAt (K : PySem.W.Frag) (mg : Str → Option Value) : Prop where
  ex : ∃ (d : Addr) (es : Array DictEntry) (n : Nat), mg "OPERATIONS" = some (.ref d) ∧ K.lookup d = some ⟨.type "dict", none, .dict es n, #[]⟩ ∧ IntKeys es ∧
    ∀ p ∈ opsTable, ∃ f, findBy Value.isInt es p.1 = some (.ref f) ∧ mg p.2 = some (.ref f)
/-- how many whole numbers, how many rows -/
def shapesTable : List (Int × Int) := [(1, 0), (1, 1), (1, 0), (0, 1), (2, 1), (0, 0), (0, 0), (0, 0), (0, 0), (0, 0), (0, 0), (0, 2), (1, 2), (0, 2), (0, 2), (0, 2), (0, 4), (0, 0), (0, 0), (0, 0), (0, 0), (1, 0), (0, 0)]
structure ShapesAt (K : PySem.W.Frag) (mg : Str → Option Value) : Prop where
  ex : ∃ (a : Addr) (bs : List Addr), mg "SHAPES" = some (.ref a) ∧ (∀ H : Hp, SqT K H a (bs.map V.ref)) ∧ bs.length = shapesTable.length ∧
    ∀ (i : Nat) (b : Addr) (p : Int × Int), bs[i]? = some b → shapesTable[i]? = some p → ∀ H : Hp, SqT K H b [.int p.1, .int p.2]
/-- all that the top has written, as far as it is asked -/
structure Txt (K : PySem.W.Frag) (mg : Str → Option Value) (CI CC CS CP : Addr) : Prop where
  d_is_variables : DefAt K mg "is_variables" (top 11) ["number"]
  d_is_coefficient : DefAt K mg "is_coefficient" (top 12) ["number"]
  d_are_coefficients : DefAt K mg "are_coefficients" (top 13) ["numbers", "width"]
  d_is_vector : DefAt K mg "is_vector" (top 14) ["nums", "dens", "width"]
  d_are_demands : DefAt K mg "are_demands" (top 15) ["numbers"]
  d_is_cycle : DefAt K mg "is_cycle" (top 16) ["think", "customers", "demands"]
  d_is_most : DefAt K mg "is_most" (top 17) ["number"]
  d_dot : DefAt K mg "dot" (top 19) ["row", "point"]
  d_greatest_divisor : DefAt K mg "greatest_divisor" (top 20) ["first", "second"]
  d_lowest : DefAt K mg "lowest" (top 21) ["numerator", "denominator"]
  d_lowest_point : DefAt K mg "lowest_point" (top 22) ["numbers"]
  d_point_of : DefAt K mg "point_of" (top 23) ["nums", "dens"]
  d_fractions_of : DefAt K mg "fractions_of" (top 24) ["point"]
  d_value_of : DefAt K mg "value_of" (top 25) ["goal", "point"]
  d_exceeds : DefAt K mg "exceeds" (top 26) ["point", "other", "goal"]
  d_comes_before : DefAt K mg "comes_before" (top 27) ["point", "other"]
  d_first_of : DefAt K mg "first_of" (top 28) ["points"]
  d_best_of : DefAt K mg "best_of" (top 29) ["points", "goal"]
  d_smaller : DefAt K mg "smaller" (top 32) ["first", "second"]
  d_asymptotic_bounds : DefAt K mg "asymptotic_bounds" (top 33) ["cycle"]
  d_balanced_bounds : DefAt K mg "balanced_bounds" (top 34) ["cycle"]
  d_exact_throughputs : DefAt K mg "exact_throughputs" (top 35) ["cycle", "most"]
  d_saturation_of : DefAt K mg "saturation_of" (top 36) ["cycle"]
  d_first_filled : DefAt K mg "first_filled" (top 38) ["numbers"]
  d_keeps_to : DefAt K mg "keeps_to" (top 45) ["program", "point"]
  d_sign_rows : DefAt K mg "sign_rows" (top 46) ["width"]
  d_search_corners : DefAt K mg "search_corners" (top 47) ["program", "system", "conditions", "found"]
  d_corners_from : DefAt K mg "corners_from" (top 48) ["program", "system"]
  d_corners_of : DefAt K mg "corners_of" (top 49) ["program"]
  d_cone_of : DefAt K mg "cone_of" (top 50) ["program"]
  d_rays_of : DefAt K mg "rays_of" (top 51) ["program"]
  d_gains : DefAt K mg "gains" (top 52) ["program", "point"]
  d_improving_rays_of : DefAt K mg "improving_rays_of" (top 53) ["program"]
  d_is_improving : DefAt K mg "is_improving" (top 54) ["program", "point"]
  d_dual_of : DefAt K mg "dual_of" (top 55) ["program"]
  d_proven_bound_of : DefAt K mg "proven_bound_of" (top 56) ["program", "point"]
  d_status_of : DefAt K mg "status_of" (top 57) ["program"]
  d_refusal : DefAt K mg "refusal" (top 65) ["number"]
  d_create : DefAt K mg "create" (top 68) ["instance", "numbers", "rows"]
  d_add_constraint : DefAt K mg "add_constraint" (top 69) ["instance", "numbers", "rows"]
  d_remove_constraint : DefAt K mg "remove_constraint" (top 70) ["instance", "numbers", "rows"]
  d_set_objective : DefAt K mg "set_objective" (top 71) ["instance", "numbers", "rows"]
  d_set_cycle : DefAt K mg "set_cycle" (top 72) ["instance", "numbers", "rows"]
  d_status : DefAt K mg "status" (top 73) ["instance", "numbers", "rows"]
  d_optimum : DefAt K mg "optimum" (top 74) ["instance", "numbers", "rows"]
  d_multipliers : DefAt K mg "multipliers" (top 75) ["instance", "numbers", "rows"]
  d_refutation : DefAt K mg "refutation" (top 76) ["instance", "numbers", "rows"]
  d_ray : DefAt K mg "ray" (top 77) ["instance", "numbers", "rows"]
  d_corners : DefAt K mg "corners" (top 78) ["instance", "numbers", "rows"]
  d_is_feasible : DefAt K mg "is_feasible" (top 79) ["instance", "numbers", "rows"]
  d_slack : DefAt K mg "slack" (top 80) ["instance", "numbers", "rows"]
  d_check_bound : DefAt K mg "check_bound" (top 81) ["instance", "numbers", "rows"]
  d_check_refutation : DefAt K mg "check_refutation" (top 82) ["instance", "numbers", "rows"]
  d_check_ray : DefAt K mg "check_ray" (top 83) ["instance", "numbers", "rows"]
  d_check_optimum : DefAt K mg "check_optimum" (top 84) ["instance", "numbers", "rows"]
  d_asymptotic : DefAt K mg "asymptotic" (top 85) ["instance", "numbers", "rows"]
  d_balanced : DefAt K mg "balanced" (top 86) ["instance", "numbers", "rows"]
  d_exact : DefAt K mg "exact" (top 87) ["instance", "numbers", "rows"]
  d_saturation : DefAt K mg "saturation" (top 88) ["instance", "numbers", "rows"]
  d_exact_curve : DefAt K mg "exact_curve" (top 89) ["instance", "numbers", "rows"]
  d_summary : DefAt K mg "summary" (top 90) ["instance", "numbers", "rows"]
  d_answer_of : DefAt K mg "answer_of" (top 92) ["instance", "number", "numbers", "rows"]
  d_read_rows : DefAt K mg "read_rows" (top 95) ["calls", "place", "count"]
  d_read_calls : DefAt K mg "read_calls" (top 96) ["calls"]
  d_answers : DefAt K mg "answers" (top 98) ["calls"]
  g_Instance : mg "Instance" = some (.ref CI)
  c_Instance : Cls K CI
  a_Instance_program : NoAttr K CI "program"
  a_Instance_cycle : NoAttr K CI "cycle"
  i_Instance : InitAt K CI "Instance.__init__" (inClass (top 1) 0) ["self"]
  g_Cycle : mg "Cycle" = some (.ref CC)
  c_Cycle : Cls K CC
  a_Cycle_think : NoAttr K CC "think"
  a_Cycle_customers : NoAttr K CC "customers"
  a_Cycle_demands : NoAttr K CC "demands"
  i_Cycle : InitAt K CC "Cycle.__init__" (inClass (top 31) 0) ["self", "think", "customers", "demands"]
  g_System : mg "System" = some (.ref CS)
  c_System : Cls K CS
  a_System_pivot : NoAttr K CS "pivot"
  a_System_columns : NoAttr K CS "columns"
  a_System_rows : NoAttr K CS "rows"
  i_System : InitAt K CS "System.__init__" (inClass (top 39) 0) ["self", "pivot", "columns", "rows"]
  m_System_reduced : MethAt K CS "reduced" "System.reduced" (inClass (top 39) 1) ["self", "equation"]
  m_System_cleared : MethAt K CS "cleared" "System.cleared" (inClass (top 39) 2) ["self", "row", "rest", "column"]
  m_System_with_equation : MethAt K CS "with_equation" "System.with_equation" (inClass (top 39) 3) ["self", "equation"]
  m_System_solution : MethAt K CS "solution" "System.solution" (inClass (top 39) 4) ["self"]
  g_Program : mg "Program" = some (.ref CP)
  c_Program : Cls K CP
  a_Program_width : NoAttr K CP "width"
  a_Program_rows : NoAttr K CP "rows"
  a_Program_goal : NoAttr K CP "goal"
  i_Program : InitAt K CP "Program.__init__" (inClass (top 44) 0) ["self", "width", "rows", "goal"]
  k_MOST_VARIABLES : ∃ t, mg "MOST_VARIABLES" = some (.int 5 t)
  k_MOST_CONSTRAINTS : ∃ t, mg "MOST_CONSTRAINTS" = some (.int 6 t)
  k_GREATEST_COEFFICIENT : ∃ t, mg "GREATEST_COEFFICIENT" = some (.int 1000 t)
  k_GREATEST_THINK : ∃ t, mg "GREATEST_THINK" = some (.int 10000 t)
  k_MOST_CUSTOMERS : ∃ t, mg "MOST_CUSTOMERS" = some (.int 40 t)
  k_MOST_QUEUES : ∃ t, mg "MOST_QUEUES" = some (.int 8 t)
  k_GREATEST_DEMAND : ∃ t, mg "GREATEST_DEMAND" = some (.int 1000 t)
  k_GREATEST_MOST : ∃ t, mg "GREATEST_MOST" = some (.int 12 t)
  k_OPTIMAL : ∃ t, mg "OPTIMAL" = some (.int 0 t)
  k_INFEASIBLE : ∃ t, mg "INFEASIBLE" = some (.int 1 t)
  k_UNBOUNDED : ∃ t, mg "UNBOUNDED" = some (.int 2 t)
  k_NO_CONSTRAINT : ∃ t, mg "NO_CONSTRAINT" = some (.int 2 t)
  k_NO_CYCLE : ∃ t, mg "NO_CYCLE" = some (.int 6 t)
  k_NO_INSTANCE : ∃ t, mg "NO_INSTANCE" = some (.int 11 t)
  k_BAD_ARGUMENT : ∃ t, mg "BAD_ARGUMENT" = some (.int 22 t)
  k_CONSTRAINTS_FULL : ∃ t, mg "CONSTRAINTS_FULL" = some (.int 28 t)
  k_NOT_THERE : ∃ t, mg "NOT_THERE" = some (.int 33 t)
  k_CREATE : ∃ t, mg "CREATE" = some (.int 0 t)
  b_abs : mg "abs" = none
  b_len : mg "len" = none
  b_sum : mg "sum" = none
  b_min : mg "min" = none
  b_max : mg "max" = none
  b_all : mg "all" = none
  b_tuple : mg "tuple" = none
  b_list : mg "list" = none
  b_zip : mg "zip" = none
  b_enumerate : mg "enumerate" = none
  b_range : mg "range" = none
  ops : OpsAt K mg
  shapes : ShapesAt K mg
end WK

/- WkD -/
/-! Walks, comprehensions, loops. -/
namespace WK
open PySem PySem.Spec PyProof.Rows L2

/-- stands through a change elsewhere -/
class Sh (R : V → Hp → Prop) : Prop where
  sh : ∀ {v : V} {H : Hp} {D : Addr} {o : HO}, R v H → v ≠ .ref D → R v (upd H D o)
instance (x : V) : Sh (IsV x) := ⟨fun h _ => h⟩
instance (n : Int) : Sh (RN n) := ⟨fun h _ => h⟩
instance (n : Bool) : Sh (RB n) := ⟨fun h _ => h⟩
instance (ns : List Int) : Sh (IsIs ns) := ⟨fun x h => by
  obtain ⟨p, a, b⟩ := isIs_iff.mp x
  exact isIs_iff.mpr ⟨p, a, by rw [upd_ne (fun e => h (by rw [a, e]))]; exact b⟩⟩
instance (ns : List Int) : Sh (IsTs ns) := ⟨fun ⟨p, a, b⟩ h => ⟨p, a, by rw [upd_ne (fun e => h (by rw [a, e]))]; exact b⟩⟩
/-- no list that was there -/
def Off (H : Hp) (v : V) : Prop := ∀ D vs, H D = some (.lst vs) → v ≠ .ref D
/-- a value that is no list that was there -/
def YO (te : TE) (σ : L2.St) (H : Hp) (P : V → Hp → Prop) : Prop := ∀ H1, Same H H1 → ∀ Q : VK, (∀ v H2, Same H1 H2 → P v H2 → Off H1 v → Q v H2) → te σ H1 Q
section
variable {σ : L2.St} {H : Hp} {te tl : TE} {P : V → Hp → Prop} {K : PySem.W.Frag}
theorem yo_V {x : V} (hx : ∀ D, x ≠ .ref D) (h : Y te σ H (IsV x)) : YO te σ H (IsV x) := fun H1 e Q q => h H1 e Q fun v H2 e2 p => q v H2 e2 p fun D _ _ => by rw [p]; exact hx D
theorem yo_N {n : Int} (h : Y te σ H (IsN n)) : YO te σ H (RN n) := yo_V (fun _ => by intro z; cases z) h
theorem yo_B {n : Bool} (h : Y te σ H (IsB n)) : YO te σ H (RB n) := yo_V (fun _ => by intro z; cases z) h
theorem yo_T {ns : List Int} (h : Y te σ H (IsTs ns)) : YO te σ H (IsTs ns) := fun H1 e Q q => h H1 e Q fun v H2 e2 p => q v H2 e2 p fun D vs hd z => by
  obtain ⟨p', a, b⟩ := p
  rw [a] at z
  cases z
  rw [e2 _ _ hd] at b
  cases b
theorem YO.y (h : YO te σ H P) : Y te σ H P := fun H1 e Q q => h H1 e Q fun v H2 e2 p _ => q v H2 e2 p

/-! ### what is walked -/
structure Gos (J : It) (n : Nat) (H1 : Hp) (Yd : Nat → V → Hp → Prop) : Prop where
  go : ∀ k, k < n → ∀ H, Same H1 H → J.go k H
  yld : ∀ k, k < n → ∀ H, Same H1 H → ∀ x H', J.yld k H x H' → Same H H' ∧ Yd k x H'
  stop : ∀ H, Same H1 H → J.stop n H
def YI (wi : TI) (σ : L2.St) (H : Hp) (n : Nat) (Yd : Nat → V → Hp → Prop) : Prop := ∀ H1, Same H H1 → ∀ R : It → Hp → Prop, (∀ J H2, Same H1 H2 → Gos J n H2 Yd → R J H2) → wi σ H1 R
variable {α β γ : Type} {R : α → V → Hp → Prop} {S : β → V → Hp → Prop} {T : γ → V → Hp → Prop} [∀ x, Mono (R x)] [∀ x, Mono (S x)] [∀ x, Mono (T x)]
/-- items; pairs of items; a number and an item -/
def YdR (R : α → V → Hp → Prop) (xs : List α) : Nat → V → Hp → Prop := fun k x H => ∃ a, xs[k]? = some a ∧ R a x H
def YdZ (R : α → V → Hp → Prop) (S : β → V → Hp → Prop) (xs : List α) (ys : List β) : Nat → V → Hp → Prop := fun k v H => ∃ P x y a b, v = .ref P ∧ H P = some (.tup [x, y]) ∧ xs[k]? = some a ∧ R a x H ∧ ys[k]? = some b ∧ S b y H
def IsPT (ys : List V) : V → Hp → Prop := fun v H' => ∃ q, v = .ref q ∧ H' q = some (.tup ys)
instance (ys : List V) : Mono (IsPT ys) := ⟨fun e ⟨q, a, b⟩ => ⟨q, a, e _ _ b⟩⟩
theorem yi_list {xs : List α} (h : Y tl σ H (IsL R xs)) : YI (iList K tl) σ H xs.length (YdR R xs) := fun H1 e Q r =>
  h H1 e _ fun v H2 e2 ⟨p, vs, hv, hp, hE⟩ => ⟨p, hv, ⟨vs, SqL.of hp⟩, r _ H2 e2 {
    go := fun k hk H3 e3 => ⟨vs, vs[k]'(by rw [hE.length]; exact hk), SqL.of (e3 _ _ hp), List.getElem?_eq_getElem _⟩
    yld := fun k hk H3 e3 x H' ⟨y1, y2⟩ => by
      subst y1
      obtain ⟨a, h1, h2⟩ := hE.back (y2 vs (SqL.of (e3 _ _ hp)))
      exact ⟨Same.refl _, a, h1, Mono.mono e3 h2⟩
    stop := fun H3 e3 => ⟨vs, SqL.of (e3 _ _ hp), by rw [hE.length]; exact Nat.le_refl _⟩ }⟩
theorem yi_ts {ns : List Int} (h : Y tl σ H (IsTs ns)) : YI (iTup K tl) σ H ns.length (YdR RN ns) := fun H1 e Q r =>
  h H1 e _ fun v H2 e2 ⟨p, hv, hp⟩ => ⟨p, hv, ⟨_, SqT.of hp⟩, r _ H2 e2 {
    go := fun k hk H3 e3 => ⟨_, .int (ns[k]), SqT.of (e3 _ _ hp), by rw [List.getElem?_map, List.getElem?_eq_getElem hk]; rfl⟩
    yld := fun k hk H3 e3 x H' ⟨y1, y2⟩ => by
      subst y1
      have := y2 _ (SqT.of (e3 _ _ hp))
      rw [List.getElem?_map, List.getElem?_eq_getElem hk] at this
      exact ⟨Same.refl _, ns[k], List.getElem?_eq_getElem hk, (Option.some.inj this).symm⟩
    stop := fun H3 e3 => ⟨_, SqT.of (e3 _ _ hp), by rw [List.length_map]; exact Nat.le_refl _⟩ }⟩
theorem yi_range {ta : TA} {n : Int} (h0 : 0 ≤ n) (h1 : n < 2 ^ 62) (h : YA ta σ H (AC (IsN n) AN)) : YI (iRng1 ta) σ H n.toNat (fun k x _ => x = .int (k : Int)) := fun H1 e R r =>
  h H1 e _ fun vs H2 e2 ⟨v, rr, a, b, c⟩ => ⟨n, by rw [a, b, c], by omega, h1, r _ H2 e2 {
    go := fun k hk H3 e3 => hk
    yld := fun k hk H3 e3 x H' ⟨y1, y2⟩ => ⟨by rw [y1]; exact Same.refl _, by rw [y2, Int.zero_add]⟩
    stop := fun H3 e3 => Nat.le_refl _ }⟩
theorem yi_range_neg {ta : TA} {n : Int} (h0 : n < 0) (h1 : -(2 ^ 62) ≤ n) (h : YA ta σ H (AC (IsN n) AN)) : YI (iRng1 ta) σ H n.toNat (fun k x _ => x = .int (k : Int)) := fun H1 e R r =>
  h H1 e _ fun vs H2 e2 ⟨v, rr, a, b, c⟩ => ⟨n, by rw [a, b, c], h1, by omega, r _ H2 e2 {
    go := fun k hk H3 e3 => hk
    yld := fun k hk H3 e3 x H' ⟨y1, y2⟩ => ⟨by rw [y1]; exact Same.refl _, by rw [y2, Int.zero_add]⟩
    stop := fun H3 e3 => Nat.le_refl _ }⟩
theorem yi_range2 {ta : TA} {m n : Int} (h0 : 0 ≤ m) (h1 : n < 2 ^ 62) (hm : m < 2 ^ 62) (hn : 0 ≤ n) (h : YA ta σ H (AC (IsN m) (AC (IsN n) AN))) : YI (iRng2 ta) σ H (n - m).toNat (fun k x _ => x = .int (m + (k : Int))) := fun H1 e R r =>
  h H1 e _ fun vs H2 e2 ⟨v, rr, a, b, v2, r2, a2, b2, c⟩ => ⟨m, n, by rw [a, b, a2, b2, c], ⟨by omega, hm, by omega, h1⟩, r _ H2 e2 {
    go := fun k hk H3 e3 => hk
    yld := fun k hk H3 e3 x H' ⟨y1, y2⟩ => ⟨by rw [y1]; exact Same.refl _, y2⟩
    stop := fun H3 e3 => Nat.le_refl _ }⟩
theorem yi_enum {ta : TA} {xs : List α} (h : YA ta σ H (AC (IsL R xs) AN)) : YI (iEnum K ta) σ H xs.length (fun k v H' => ∃ P x a, v = .ref P ∧ H' P = some (.tup [.int (k : Int), x]) ∧ xs[k]? = some a ∧ R a x H') := fun H1 e Q r =>
  h H1 e _ fun us H2 e2 ⟨v, rr, a, ⟨p, vs, b, hp, hE⟩, c⟩ => ⟨p, vs, by rw [a, b, c], SqL.of hp, r _ H2 e2 {
    go := fun k hk H3 e3 => ⟨vs, vs[k]'(by rw [hE.length]; exact hk), SqL.of (e3 _ _ hp), List.getElem?_eq_getElem _⟩
    yld := fun k hk H3 e3 x H' ⟨P, z, y1, y2, y3, y4⟩ => by
      obtain ⟨q, h1, h2⟩ := hE.back (y4 vs (SqL.of (e3 _ _ hp)))
      have s : Same H3 H' := by rw [y3]; exact Same.new y2
      exact ⟨s, P, z, q, y1, by rw [y3]; exact upd_same, h1, Mono.mono (e3.trans s) h2⟩
    stop := fun H3 e3 => ⟨vs, SqL.of (e3 _ _ hp), by rw [hE.length]; exact Nat.le_refl _⟩ }⟩
theorem yi_zip {ta : TA} {xs : List α} {ys : List β} (hl : xs.length = ys.length) (h : YA ta σ H (AC (IsL R xs) (AC (IsL S ys) AN))) : YI (iZip K ta) σ H xs.length (YdZ R S xs ys) := fun H1 e Q r =>
  h H1 e _ fun us H2 e2 ⟨v, rr, a, ⟨p, vs, b, hp, hE⟩, v2, r2, a2, ⟨q, ws, b2, hq, hF⟩, c⟩ => ⟨p, q, vs, ws, by rw [a, b, a2, b2, c], SqL.of hp, SqL.of hq, r _ H2 e2 {
    go := fun k hk H3 e3 => ⟨vs, ws, vs[k]'(by rw [hE.length]; exact hk), ws[k]'(by rw [hF.length]; omega), SqL.of (e3 _ _ hp), SqL.of (e3 _ _ hq), List.getElem?_eq_getElem _, List.getElem?_eq_getElem _⟩
    yld := fun k hk H3 e3 x H' ⟨P, z, w, y1, y2, y3, y4, y5⟩ => by
      obtain ⟨q1, h1, h2⟩ := hE.back (y4 vs (SqL.of (e3 _ _ hp)))
      obtain ⟨q2, h3, h4⟩ := hF.back (y5 ws (SqL.of (e3 _ _ hq)))
      have s : Same H3 H' := by rw [y3]; exact Same.new y2
      exact ⟨s, P, z, w, q1, q2, y1, by rw [y3]; exact upd_same, h1, Mono.mono (e3.trans s) h2, h3, Mono.mono (e3.trans s) h4⟩
    stop := fun H3 e3 => ⟨vs, ws, SqL.of (e3 _ _ hp), SqL.of (e3 _ _ hq), .inl (by rw [hE.length]; exact Nat.le_refl _)⟩ }⟩
/-- a list and a tuple of whole numbers -/
theorem yi_zipM {ta : TA} {xs : List α} {ns : List Int} (hl : xs.length = ns.length) (h : YA ta σ H (AC (IsL R xs) (AC (IsTs ns) AN))) : YI (iZipM K ta) σ H xs.length (YdZ R RN xs ns) := fun H1 e Q r =>
  h H1 e _ fun us H2 e2 ⟨v, rr, a, ⟨p, vs, b, hp, hE⟩, v2, r2, a2, ⟨q, b2, hq⟩, c⟩ => by
    have hF : Each RN ns (ns.map V.int) H2 := each_ints.mpr rfl
    exact ⟨p, q, vs, _, by rw [a, b, a2, b2, c], SqL.of hp, SqT.of hq, r _ H2 e2 {
    go := fun k hk H3 e3 => ⟨vs, _, vs[k]'(by rw [hE.length]; exact hk), (ns.map V.int)[k]'(by rw [List.length_map]; omega), SqL.of (e3 _ _ hp), SqT.of (e3 _ _ hq), List.getElem?_eq_getElem _, List.getElem?_eq_getElem _⟩
    yld := fun k hk H3 e3 x H' ⟨P, z, w, y1, y2, y3, y4, y5⟩ => by
      obtain ⟨q1, h1, h2⟩ := hE.back (y4 vs (SqL.of (e3 _ _ hp)))
      obtain ⟨q2, h3, h4⟩ := hF.back (y5 _ (SqT.of (e3 _ _ hq)))
      have s : Same H3 H' := by rw [y3]; exact Same.new y2
      exact ⟨s, P, z, w, q1, q2, y1, by rw [y3]; exact upd_same, h1, Mono.mono (e3.trans s) h2, h3, h4⟩
    stop := fun H3 e3 => ⟨vs, _, SqL.of (e3 _ _ hp), SqT.of (e3 _ _ hq), by rw [hE.length]; exact Nat.le_refl _, by rw [List.length_map]; omega, .inl hE.length⟩ }⟩
/-- two tuples of whole numbers -/
theorem yi_zipT {ta : TA} {ms ns : List Int} (hl : ms.length = ns.length) (h : YA ta σ H (AC (IsTs ms) (AC (IsTs ns) AN))) : YI (RZ.iZipA K ta) σ H ms.length (YdZ RN RN ms ns) := fun H1 e Q r =>
  h H1 e _ fun us H2 e2 ⟨v, rr, a, ⟨p, b, hp⟩, v2, r2, a2, ⟨q, b2, hq⟩, c⟩ => by
    have hE : Each RN ms (ms.map V.int) H2 := each_ints.mpr rfl
    have hF : Each RN ns (ns.map V.int) H2 := each_ints.mpr rfl
    exact ⟨p, q, _, _, by rw [a, b, a2, b2, c], .inr ⟨SqT.of hp, SqT.of hq, r _ H2 e2 {
    go := fun k hk H3 e3 => ⟨_, _, (ms.map V.int)[k]'(by rw [List.length_map]; exact hk), (ns.map V.int)[k]'(by rw [List.length_map]; omega), SqT.of (e3 _ _ hp), SqT.of (e3 _ _ hq), List.getElem?_eq_getElem _, List.getElem?_eq_getElem _⟩
    yld := fun k hk H3 e3 x H' ⟨P, z, w, y1, y2, y3, y4, y5⟩ => by
      obtain ⟨q1, h1, h2⟩ := hE.back (y4 _ (SqT.of (e3 _ _ hp)))
      obtain ⟨q2, h3, h4⟩ := hF.back (y5 _ (SqT.of (e3 _ _ hq)))
      have s : Same H3 H' := by rw [y3]; exact Same.new y2
      exact ⟨s, P, z, w, q1, q2, y1, by rw [y3]; exact upd_same, h1, h2, h3, h4⟩
    stop := fun H3 e3 => ⟨_, _, SqT.of (e3 _ _ hp), SqT.of (e3 _ _ hq), .inl (by rw [List.length_map]; exact Nat.le_refl _)⟩ }⟩⟩

/-! ### comprehensions -/
theorem each_sh {δ : Type} {R : δ → V → Hp → Prop} [∀ x, Sh (R x)] {H : Hp} {D : Addr} {o : HO} : ∀ {xs : List δ} {vs : List V}, Each R xs vs H → (∀ v ∈ vs, v ≠ .ref D) → Each R xs vs (upd H D o)
  | [], [], _, _ => trivial
  | x :: xs, v :: vs, ⟨a, q⟩, h => ⟨(inferInstance : Sh (R x)).sh a (h v (List.mem_cons_self ..)), each_sh q fun u hu => h u (List.mem_cons_of_mem _ hu)⟩
  | [], _ :: _, q, _ => q
  | _ :: _, [], q, _ => q
/-- one turn: out: what is made so far -/
def TurnOk (σ : L2.St) (g : TG) (tt : TT) (te : TE) (vs : List Nat) (H : Hp) (n : Nat) (Yd : Nat → V → Hp → Prop) (out : Nat → List γ) (T : γ → V → Hp → Prop) : Prop :=
  ∀ k, k < n → ∀ H3, Same H H3 → ∀ x, Yd k x H3 → ∀ (Q1 : V → Hp → Prop) (Q0 : Hp → Prop), (∀ c y H4, out (k + 1) = out k ++ [c] → Same H3 H4 → T c y H4 → Off H3 y → Q1 y H4) → (out (k + 1) = out k → ∀ H4, Same H3 H4 → Q0 H4) →
    g x (wipe σ vs) H3 fun σ2 H4 => wipe σ2 vs = wipe σ vs ∧ tt σ2 H4 fun c H5 => if c = true then te σ2 H5 Q1 else Q0 H5
theorem yo_lc {wi : TI} {g : TG} {tt : TT} {vs : List Nat} {n : Nat} {Yd : Nat → V → Hp → Prop} {out : Nat → List γ} [∀ x, Sh (T x)] (hn : n ≤ 100000) (h0 : out 0 = []) (hlen : ∀ k, k ≤ n → (out k).length ≤ k) (hw : YI wi σ H n Yd)
    (ht : TurnOk σ g tt te vs H n Yd out T) : YO (tLc wi g tt te vs) σ H (IsL T (out n)) := fun H1 e1 Q q => by
  refine hw H1 e1 _ fun J H2 e2 G D nD => ?_
  refine ⟨fun i m H => m = n - i ∧ i ≤ n ∧ Same H2 H ∧ ∃ ys, H D = some (.lst ys) ∧ Each T (out i) ys H ∧ ∀ y ∈ ys, y ≠ .ref D, ⟨n, rfl, Nat.zero_le _, Same.new nD, [], upd_same, by rw [h0]; trivial, fun y h => absurd h List.not_mem_nil⟩, ?_⟩
  rintro i m H' ⟨rfl, hi, s2, ys, hD, hE, hO⟩
  by_cases hlt : i < n
  · refine .inr ⟨G.go i hlt _ s2, fun H3 => i + 1 ≤ n ∧ Same H2 H3 ∧ ∃ ys, H3 D = some (.lst ys) ∧ Each T (out (i + 1)) ys H3 ∧ ∀ y ∈ ys, y ≠ .ref D, fun H3 h => ⟨n - (i + 1), by omega, rfl, h⟩, fun x H3 y => ?_⟩
    obtain ⟨s3, hY⟩ := G.yld i hlt _ s2 x H3 y
    have hl : ys.length ≤ n := by
      rw [hE.length]
      exact Nat.le_trans (hlen i hi) hi
    refine ht i hlt H3 ((e1.trans e2).trans (s2.trans s3)) x hY _ _ (fun c y H4 ho s4 hT hoff => ?_) fun ho H4 s4 => ?_
    · have hD4 : H4 D = some (.lst ys) := s4 _ _ (s3 _ _ hD)
      refine ⟨ys, hD4, Nat.lt_of_le_of_lt hl (Nat.lt_of_le_of_lt hn (by decide)), hlt, Same.mut (s2.trans (s3.trans s4)) nD, ys ++ [y], upd_same, ?_, ?_⟩
      · rw [ho]
        refine Each.snoc ?_ (each_sh (Each.mono (s3.trans s4) hE) hO)
        exact (inferInstance : Sh (T c)).sh hT (hoff D ys (s3 _ _ hD))
      · intro z hz
        rcases List.mem_append.mp hz with h | h
        · exact hO z h
        · rw [List.mem_singleton] at h
          subst h
          exact hoff D ys (s3 _ _ hD)
    · refine ⟨hlt, s2.trans (s3.trans s4), ys, s4 _ _ (s3 _ _ hD), ?_, hO⟩
      rw [ho]
      exact Each.mono (s3.trans s4) hE
  · have e : i = n := by omega
    subst e
    exact .inl ⟨G.stop _ s2, q _ _ (e2.trans s2) ⟨D, ys, rfl, hD, hE⟩ fun D' us hd z => by
      cases z
      rw [e2 _ _ hd] at nD
      cases nD⟩
theorem y_lc {wi : TI} {g : TG} {tt : TT} {vs : List Nat} {n : Nat} {Yd : Nat → V → Hp → Prop} {out : Nat → List γ} [∀ x, Sh (T x)] (hn : n ≤ 100000) (h0 : out 0 = []) (hlen : ∀ k, k ≤ n → (out k).length ≤ k) (hw : YI wi σ H n Yd)
    (ht : TurnOk σ g tt te vs H n Yd out T) : Y (tLc wi g tt te vs) σ H (IsL T (out n)) := (yo_lc hn h0 hlen hw ht).y
theorem take_snoc {δ : Type} {xs : List δ} {k : Nat} {a : δ} (h : xs[k]? = some a) : xs.take (k + 1) = xs.take k ++ [a] := by
  have hk := (List.getElem?_eq_some_iff.mp h).1
  have e := (List.getElem?_eq_some_iff.mp h).2
  rw [List.take_succ_eq_append_getElem hk, e]
/-- [e for x in xs] -/
theorem yo_lc_map {f : α → γ} {xs : List α} {i : Nat} [∀ x, Sh (T x)] (hn : xs.length ≤ 100000) (hl : Y tl σ H (IsL R xs)) (hw : ∀ x, wipe ((wipe σ [i]).set i x) [i] = wipe σ [i])
    (h : ∀ a ∈ xs, ∀ x H3, Same H H3 → R a x H3 → YO te ((wipe σ [i]).set i (some x)) H3 (T (f a))) : YO (tLc (iList K tl) (gName i) tYes te [i]) σ H (IsL T (xs.map f)) := by
  have := yo_lc (T := T) (te := te) (out := fun k => (xs.take k).map f) (g := gName i) (tt := tYes) (vs := [i]) hn (by simp) (fun k hk => by simp; omega) (yi_list (K := K) hl) (fun k hk H3 e x ⟨a, ha, hx⟩ Q1 Q0 q1 q0 => by
    refine ⟨hw _, ?_⟩
    show (if true = true then te _ H3 Q1 else Q0 H3)
    rw [if_pos rfl]
    exact h a (List.mem_of_getElem? ha) x H3 e hx H3 (Same.refl _) Q1 fun v H4 s4 t o => q1 (f a) v H4 (by
      show List.map f (xs.take (k + 1)) = _
      rw [take_snoc ha, List.map_append]
      rfl) s4 t o)
  simpa using this
theorem y_map {f : α → γ} {xs : List α} {i : Nat} [∀ x, Sh (T x)] (hn : xs.length ≤ 100000) (hl : Y tl σ H (IsL R xs)) (hw : ∀ x, wipe ((wipe σ [i]).set i x) [i] = wipe σ [i])
    (h : ∀ a ∈ xs, ∀ x H3, Same H H3 → R a x H3 → YO te ((wipe σ [i]).set i (some x)) H3 (T (f a))) : Y (tLc (iList K tl) (gName i) tYes te [i]) σ H (IsL T (xs.map f)) := (yo_lc_map (K := K) hn hl hw h).y
/-- [e for x in xs if t] -/
theorem y_filter {f : α → γ} {p : α → Bool} {tt : TT} {xs : List α} {i : Nat} [∀ x, Sh (T x)] (hn : xs.length ≤ 100000) (hl : Y tl σ H (IsL R xs)) (hw : ∀ x, wipe ((wipe σ [i]).set i x) [i] = wipe σ [i])
    (ht : ∀ a ∈ xs, ∀ x H3, Same H H3 → R a x H3 → YT tt ((wipe σ [i]).set i (some x)) H3 (p a))
    (h : ∀ a ∈ xs, ∀ x H3, Same H H3 → R a x H3 → YO te ((wipe σ [i]).set i (some x)) H3 (T (f a))) : Y (tLc (iList K tl) (gName i) tt te [i]) σ H (IsL T ((xs.filter p).map f)) := by
  have := y_lc (T := T) (te := te) (out := fun k => ((xs.take k).filter p).map f) (g := gName i) (tt := tt) (vs := [i]) hn (by simp) (fun k hk => by
      rw [List.length_map]
      exact Nat.le_trans (List.length_filter_le _ _) (by simp; omega)) (yi_list (K := K) hl) (fun k hk H3 e x ⟨a, ha, hx⟩ Q1 Q0 q1 q0 => by
    refine ⟨hw _, ht a (List.mem_of_getElem? ha) x H3 e hx H3 (Same.refl _) _ fun H4 s4 => ?_⟩
    cases hb : p a with
    | true =>
      refine iteT ?_
      exact h a (List.mem_of_getElem? ha) x H3 e hx H4 s4 Q1 fun v H5 s5 t o => q1 (f a) v H5 (by
        show List.map f ((xs.take (k + 1)).filter p) = _
        rw [take_snoc ha, List.filter_append, List.map_append]; simp [List.filter, hb]) (s4.trans s5) t fun D us hd => o D us (s4 _ _ hd)
    | false =>
      refine iteF ?_
      exact q0 (by
        show List.map f ((xs.take (k + 1)).filter p) = _
        rw [take_snoc ha, List.filter_append, List.map_append]; simp [List.filter, hb]) H4 s4)
  simpa using this
theorem zipWith_snoc {f : α → β → γ} {xs : List α} {ys : List β} {k : Nat} {a : α} {b : β} (h1 : xs[k]? = some a) (h2 : ys[k]? = some b) : List.zipWith f (xs.take (k + 1)) (ys.take (k + 1)) = List.zipWith f (xs.take k) (ys.take k) ++ [f a b] := by
  have l1 := (List.getElem?_eq_some_iff.mp h1).1
  have l2 := (List.getElem?_eq_some_iff.mp h2).1
  rw [take_snoc h1, take_snoc h2, List.zipWith_append (by simp; omega)]
  rfl
/-- the turn of a pair -/
theorem turn_pair {f : α → β → γ} {xs : List α} {ys : List β} {i j : Nat} {vs : List Nat} {n : Nat} (hw : ∀ x y, wipe (((wipe σ vs).set i x).set j y) vs = wipe σ vs)
    (h : ∀ (k : Nat) (a : α) (b : β), xs[k]? = some a → ys[k]? = some b → ∀ x y H3, Same H H3 → R a x H3 → S b y H3 → YO te (((wipe σ vs).set i (some x)).set j (some y)) H3 (T (f a b))) :
    TurnOk σ (gTup K 2 (gCons (gName i) (gCons (gName j) gNil))) tYes te vs H n (YdZ R S xs ys) (fun k => List.zipWith f (xs.take k) (ys.take k)) T := fun k hk H3 e x ⟨P, u, v, a, b, e1, e2, e3, e4, e5, e6⟩ Q1 Q0 q1 q0 => by
  refine ⟨P, [u, v], e1, SqT.of e2, rfl, u, [v], rfl, v, [], rfl, rfl, hw _ _, ?_⟩
  show (if true = true then te _ H3 Q1 else Q0 H3)
  rw [if_pos rfl]
  exact h k a b e3 e5 u v H3 e e4 e6 H3 (Same.refl _) Q1 fun y H4 s4 t o => q1 (f a b) y H4 (zipWith_snoc e3 e5) s4 t o
theorem yo_zip {wi : TI} {f : α → β → γ} {xs : List α} {ys : List β} {i j : Nat} {vs : List Nat} [∀ x, Sh (T x)] (hn : xs.length ≤ 100000) (hl : xs.length = ys.length) (hi : YI wi σ H xs.length (YdZ R S xs ys)) (hw : ∀ x y, wipe (((wipe σ vs).set i x).set j y) vs = wipe σ vs)
    (h : ∀ (k : Nat) (a : α) (b : β), xs[k]? = some a → ys[k]? = some b → ∀ x y H3, Same H H3 → R a x H3 → S b y H3 → YO te (((wipe σ vs).set i (some x)).set j (some y)) H3 (T (f a b))) :
    YO (tLc wi (gTup K 2 (gCons (gName i) (gCons (gName j) gNil))) tYes te vs) σ H (IsL T (List.zipWith f xs ys)) := by
  have := yo_lc (T := T) (te := te) (vs := vs) (out := fun k => List.zipWith f (xs.take k) (ys.take k)) hn (by simp) (fun k hk => by simp; omega) hi (turn_pair (K := K) (n := xs.length) hw h)
  rw [List.take_of_length_le (Nat.le_refl _), List.take_of_length_le (by omega)] at this
  exact this
theorem y_zip {wi : TI} {f : α → β → γ} {xs : List α} {ys : List β} {i j : Nat} {vs : List Nat} [∀ x, Sh (T x)] (hn : xs.length ≤ 100000) (hl : xs.length = ys.length) (hi : YI wi σ H xs.length (YdZ R S xs ys)) (hw : ∀ x y, wipe (((wipe σ vs).set i x).set j y) vs = wipe σ vs)
    (h : ∀ (k : Nat) (a : α) (b : β), xs[k]? = some a → ys[k]? = some b → ∀ x y H3, Same H H3 → R a x H3 → S b y H3 → YO te (((wipe σ vs).set i (some x)).set j (some y)) H3 (T (f a b))) :
    Y (tLc wi (gTup K 2 (gCons (gName i) (gCons (gName j) gNil))) tYes te vs) σ H (IsL T (List.zipWith f xs ys)) := (yo_zip (K := K) hn hl hi hw h).y
end
end WK

/- WkE -/
/-! Slices, sums, products of numbers of a bounded size; loops. -/
namespace WK
open PySem PySem.Spec PyProof.Rows L2

/-- every number below 2 ^ B -/
def BdL (B : Nat) (ns : List Int) : Prop := ∀ n ∈ ns, n.natAbs < 2 ^ B
theorem BdL.mono {B C : Nat} {ns : List Int} (h : BdL B ns) (k : B ≤ C) : BdL C ns := fun n hn => Nat.lt_of_lt_of_le (h n hn) (Nat.pow_le_pow_right (by decide) k)
theorem BdL.sub {B : Nat} {ns ms : List Int} (h : BdL B ns) (k : ∀ m ∈ ms, m ∈ ns) : BdL B ms := fun m hm => h m (k m hm)
theorem BdL.get {B : Nat} {ns : List Int} (h : BdL B ns) (i : Nat) : (ns.getD i 0).natAbs < 2 ^ B := by
  rw [List.getD_eq_getElem?_getD]
  cases e : ns[i]? with
  | none => exact Nat.pos_of_ne_zero (by simp)
  | some n => exact h n (List.mem_of_getElem? e)
theorem bd_mul {i j : Int} {a b : Nat} (ha : i.natAbs < 2 ^ a) (hb : j.natAbs < 2 ^ b) : (i * j).natAbs < 2 ^ (a + b) := wide_lt ha hb
theorem bd_add {i j : Int} {a : Nat} (ha : i.natAbs < 2 ^ a) (hb : j.natAbs < 2 ^ a) : (i + j).natAbs < 2 ^ (a + 1) := by
  rw [Nat.pow_succ]
  omega
theorem bd_sub {i j : Int} {a : Nat} (ha : i.natAbs < 2 ^ a) (hb : j.natAbs < 2 ^ a) : (i - j).natAbs < 2 ^ (a + 1) := by
  rw [Nat.pow_succ]
  omega
theorem bd_up {i : Int} {a b : Nat} (h : i.natAbs < 2 ^ a) (k : a ≤ b) : i.natAbs < 2 ^ b := Nat.lt_of_lt_of_le h (Nat.pow_le_pow_right (by decide) k)

section
variable {σ : L2.St} {H : Hp} {te ta tb tl : TE} {K : PySem.W.Frag} {α : Type} {R : α → V → Hp → Prop} [∀ x, Mono (R x)]
theorem y_mul {i j : Int} {a b : Nat} (h1 : Y ta σ H (IsN i)) (h2 : Y tb σ H (IsN j)) (ha : i.natAbs < 2 ^ a) (hb : j.natAbs < 2 ^ b) (a0 : 0 < a) (b0 : 0 < b) (ab : a + b ≤ 1000000) :
    Y (tOp (rI CMulW fun i j => .int (i * j)) ta tb) σ H (IsN (i * j)) := y_I h1 h2 (wide_mul ha hb a0 b0 ab)
theorem y_fdiv {i j : Int} {b : Nat} (h1 : Y ta σ H (IsN i)) (h2 : Y tb σ H (IsN j)) (h : j ≠ 0) (hb : j.natAbs < 2 ^ b) (b0 : 0 < b) (b9 : b ≤ 9000) :
    Y (tOp (rI CDivZ fun i j => .int (i.fdiv j)) ta tb) σ H (IsN (i.fdiv j)) := y_I h1 h2 (cdiv h hb b0 b9)
/-! parts -/
def YP (to : TO) (σ : L2.St) (H : Hp) (o : Option Int) : Prop := ∀ H1, Same H H1 → ∀ Q : Option Int → Hp → Prop, (∀ H2, Same H1 H2 → Q o H2) → to σ H1 Q
theorem yp_none : YP tNoPart σ H none := fun H1 e Q q => q H1 (Same.refl _)
theorem yp_some {i : Int} (h : Y te σ H (IsN i)) : YP (tPart te) σ H (some i) := fun H1 e Q q => h H1 e _ fun v H2 e2 hv => ⟨i, hv, q H2 e2⟩
def cutG {δ : Type} (xs : List δ) (lo hi : Option Int) : List δ := (xs.drop (HT.sIx xs.length 0 lo)).take (HT.sIx xs.length xs.length hi - HT.sIx xs.length 0 lo)
theorem cut_map {δ : Type} (f : δ → V) (xs : List δ) (lo hi : Option Int) : cutV (xs.map f) lo hi = (cutG xs lo hi).map f := by
  unfold cutV cutG
  rw [List.length_map, List.map_take, List.map_drop]
theorem cut_init (ns : List Int) : cutG ns none (some (-1)) = ns.dropLast := by
  show (ns.drop 0).take ((if (-1 : Int) < 0 then ((-1 : Int) + (ns.length : Int)).toNat else min (-1 : Int).toNat ns.length) - 0) = ns.dropLast
  rw [if_pos (by decide), List.drop_zero, List.dropLast_eq_take]
  congr 1
  omega
theorem y_slT {ns : List Int} {tl th : TO} {lo hi : Option Int} (h : Y te σ H (IsTs ns)) (h1 : YP tl σ H lo) (h2 : YP th σ H hi) (hw : ¬ (HT.sIx ns.length 0 lo = 0 ∧ HT.sIx ns.length ns.length hi = ns.length)) :
    Y (tSl (rSlT K) te tl th) σ H (IsTs (cutG ns lo hi)) := fun H1 e Q q => h H1 e _ fun v H2 e2 ⟨p, a, b⟩ => h1 H2 (e.trans e2) _ fun H3 e3 => h2 H3 ((e.trans e2).trans e3) _ fun H4 e4 =>
  ⟨p, _, a, SqT.of (e4 _ _ (e3 _ _ b)), by rw [List.length_map]; exact hw, fun p' np => q _ _ (((e2.trans e3).trans e4).trans (Same.new np)) ⟨p', rfl, by rw [upd_same, cut_map]⟩⟩
/-- t[:-1] -/
theorem y_initT {ns : List Int} {th : TO} (h : Y te σ H (IsTs ns)) (h2 : YP th σ H (some (-1))) (hw : ns ≠ []) : Y (tSl (rSlT K) te tNoPart th) σ H (IsTs ns.dropLast) := by
  have := y_slT (K := K) h yp_none h2 (by
    rintro ⟨_, b⟩
    have : (if (-1 : Int) < 0 then ((-1 : Int) + (ns.length : Int)).toNat else min (-1 : Int).toNat ns.length) = ns.length := b
    rw [if_pos (by decide)] at this
    have : 0 < ns.length := List.length_pos_iff.mpr hw
    omega)
  rw [cut_init] at this
  exact this
theorem each_cut {xs : List α} {vs : List V} {H : Hp} {lo hi : Option Int} (h : Each R xs vs H) : Each R (cutG xs lo hi) (cutV vs lo hi) H := by
  unfold cutG cutV
  rw [h.length]
  exact Each.take _ (Each.drop _ h)
theorem yo_sl {xs : List α} {tl th : TO} {lo hi : Option Int} (h : Y te σ H (IsL R xs)) (h1 : YP tl σ H lo) (h2 : YP th σ H hi) : YO (tSl (rSlL K) te tl th) σ H (IsL R (cutG xs lo hi)) := fun H1 e Q q =>
  h H1 e _ fun v H2 e2 ⟨p, vs, a, b, c⟩ => h1 H2 (e.trans e2) _ fun H3 e3 => h2 H3 ((e.trans e2).trans e3) _ fun H4 e4 =>
  ⟨p, _, a, SqL.of (e4 _ _ (e3 _ _ b)), fun p' np => q _ _ (((e2.trans e3).trans e4).trans (Same.new np)) ⟨p', _, rfl, upd_same, Each.mono (Same.new np) (each_cut (Each.mono (e3.trans e4) c))⟩ fun D us hd z => by
    cases z
    rw [((e2.trans e3).trans e4) _ _ hd] at np
    cases np⟩
/-- xs + ys -/
theorem yo_cat {xs ys : List α} (h1 : Y ta σ H (IsL R xs)) (h2 : Y tb σ H (IsL R ys)) (hl : xs.length + ys.length ≤ 100000) : YO (tOp rCat ta tb) σ H (IsL R (xs ++ ys)) := fun H1 e Q q =>
  h1 H1 e _ fun v H2 e2 ⟨p, vs, a, b, c⟩ => h2 H2 (e.trans e2) _ fun u H3 e3 ⟨p2, us, a2, b2, c2⟩ =>
  ⟨p, p2, vs, us, a, a2, e3 _ _ b, b2, by rw [c.length, c2.length]; exact Nat.le_trans hl (by decide), fun p' np => q _ _ ((e2.trans e3).trans (Same.new np)) ⟨p', _, rfl, upd_same, Each.mono (Same.new np) (Each.append c2 (Each.mono e3 c))⟩ fun D us' hd z => by
    cases z
    rw [(e2.trans e3) _ _ hd] at np
    cases np⟩
/-- [n] * k -/
theorem yo_rep {n k : Int} (h1 : Y ta σ H (IsIs [n])) (h2 : Y tb σ H (IsN k)) (h0 : 0 ≤ k) (hk : k ≤ 1000) : YO (tOp rRep ta tb) σ H (IsIs (List.replicate k.toNat n)) := fun H1 e Q q =>
  h1 H1 e _ fun v H2 e2 hv => h2 H2 (e.trans e2) _ fun u H3 e3 hu => by
    obtain ⟨p, a, b⟩ := isIs_iff.mp hv
    refine ⟨p, k, _, a, hu, e3 _ _ b, by omega, by omega, ?_, fun p' np => q _ _ ((e2.trans e3).trans (Same.new np)) (isIs_mk ?_) fun D us' hd z => ?_⟩
    · rw [List.length_map]
      show 1 * k.toNat ≤ sizeLine
      exact Nat.le_trans (by omega : 1 * k.toNat ≤ 1000) (by decide)
    · rw [upd_same]
      have : (List.replicate k.toNat ([n].map V.int)).flatten = (List.replicate k.toNat n).map V.int := by
        rw [List.map_replicate]
        generalize k.toNat = m
        induction m with
        | zero => rfl
        | succ m ih => rw [List.replicate_succ, List.replicate_succ, List.flatten_cons, ih]; rfl
      rw [this]
    · cases z
      rw [(e2.trans e3) _ _ hd] at np
      cases np
/-! built-ins -/
theorem y_sum {ns : List Int} {ta : TA} (h : YA ta σ H (AC (IsIs ns) AN)) : Y (tCB (rSum K) ta) σ H (IsN ns.sum) := y_cb h fun vs H1 e ⟨v, r, a, b, c⟩ Q q => by
  obtain ⟨p, x, y⟩ := isIs_iff.mp b
  exact ⟨p, ns, by rw [a, x, c], SqL.of y, q _ _ (Same.refl _) rfl⟩
theorem y_all {bs : List Bool} {ta : TA} (h : YA ta σ H (AC (IsBs bs) AN)) : Y (tCB (rAll K) ta) σ H (IsB (bs.all id)) := y_cb h fun vs H1 e ⟨v, r, a, b, c⟩ Q q => by
  obtain ⟨p, x, y⟩ := isBs_iff.mp b
  exact ⟨p, bs, by rw [a, x, c], SqL.of y, q _ _ (Same.refl _) rfl⟩
theorem y_len {xs : List α} {ta : TA} (h : YA ta σ H (AC (IsL R xs) AN)) : Y (tCB (fun xs H Q => ∃ p ys, xs = [.ref p] ∧ (SqL K H p ys ∨ SqT K H p ys) ∧ Q (.int ys.length) H) ta) σ H (IsN (xs.length : Int)) := y_cb h fun vs H1 e ⟨v, r, a, ⟨p, us, x, y, z⟩, c⟩ Q q => by
  refine ⟨p, us, by rw [a, x, c], .inl (SqL.of y), q _ _ (Same.refl _) ?_⟩
  rw [z.length]
  rfl
theorem y_abs {n : Int} {ta : TA} (h : YA ta σ H (AC (IsN n) AN)) : Y (tCB (fun xs H Q => ∃ i, xs = [.int i] ∧ Q (.int (if i < 0 then -i else i)) H) ta) σ H (IsN (if n < 0 then -n else n)) := y_cb h fun vs H1 e ⟨v, r, a, b, c⟩ Q q =>
  ⟨n, by rw [a, b, c], q _ _ (Same.refl _) rfl⟩
theorem y_minT {n : Int} {ns : List Int} {ta : TA} (h : YA ta σ H (AC (IsTs (n :: ns)) AN)) : Y (tCB (rMinT K) ta) σ H (IsN (PySem.W.minOf n ns)) := y_cb h fun vs H1 e ⟨v, r, a, ⟨p, x, y⟩, c⟩ Q q =>
  ⟨p, n, ns, by rw [a, x, c], SqT.of y, q _ _ (Same.refl _) rfl⟩
theorem y_max {ns : List Int} {m : Int} {ta : TA} (hne : ns ≠ []) (hm : ∀ x, x ∈ ns → (∀ y ∈ ns, y ≤ x) → x = m) (h : YA ta σ H (AC (IsIs ns) AN)) : Y (tCB (rMax K) ta) σ H (IsN m) := y_cb h fun vs H1 e ⟨v, r, a, b, c⟩ Q q => by
  obtain ⟨p, x, y⟩ := isIs_iff.mp b
  exact ⟨p, ns, by rw [a, x, c], SqL.of y, List.length_pos_iff.mpr hne, fun z h1 h2 => q _ _ (Same.refl _) (by rw [hm z h1 h2]; rfl)⟩
theorem y_tuple {ns : List Int} {ta : TA} (h : YA ta σ H (AC (IsIs ns) AN)) : Y (tCB (fun xs H Q => ∃ p ys, xs = [.ref p] ∧ ((SqL K H p ys ∧ ∀ l, H l = none → Q (.ref l) (upd H l (.tup ys))) ∨ (SqT K H p ys ∧ Q (.ref p) H))) ta) σ H (IsTs ns) := y_cb h fun vs H1 e ⟨v, r, a, b, c⟩ Q q => by
  obtain ⟨p, x, y⟩ := isIs_iff.mp b
  exact ⟨p, _, by rw [a, x, c], .inl ⟨SqL.of y, fun l nl => q _ _ (Same.new nl) ⟨l, rfl, upd_same⟩⟩⟩
end
end WK

/- WkF0 -/
/-! More rules: promises of new lists, objects, loops. -/
namespace WK
open PySem PySem.Spec PyProof.Rows L2

theorem len1 {P1 : V → Hp → Prop} {vs : List V} {H : Hp} (h : AC P1 AN vs H) : vs.length = 1 := by
  obtain ⟨v, r, a, b, c⟩ := h
  rw [a, c]
  rfl
theorem len2 {P1 P2 : V → Hp → Prop} {vs : List V} {H : Hp} (h : AC P1 (AC P2 AN) vs H) : vs.length = 2 := by
  obtain ⟨v, r, a, b, c⟩ := h
  rw [a, List.length_cons, len1 c]
theorem len3 {P1 P2 P3 : V → Hp → Prop} {vs : List V} {H : Hp} (h : AC P1 (AC P2 (AC P3 AN)) vs H) : vs.length = 3 := by
  obtain ⟨v, r, a, b, c⟩ := h
  rw [a, List.length_cons, len2 c]
theorem len4 {P1 P2 P3 P4 : V → Hp → Prop} {vs : List V} {H : Hp} (h : AC P1 (AC P2 (AC P3 (AC P4 AN))) vs H) : vs.length = 4 := by
  obtain ⟨v, r, a, b, c⟩ := h
  rw [a, List.length_cons, len3 c]
/-! the same rules where the frame is a comprehension's -/
theorem pe_fldK {X : Cx} {K : PySem.W.Frag} {e : Expr} {f : Str} {pos : Pos} {ta : TE} (hK : X.K = K) (h : PE X e ta) (hb : attributeBase e f X.env (eval e X.env) = eval e X.env) : PE X (e.Attribute f pos) (tFld K ta f) := by
  subst hK
  exact pe_fld h hb
theorem ix_listK {X : Cx} {K : PySem.W.Frag} (hK : X.K = K) : IxR X (rIxL K) := by
  subst hK
  exact ix_list
theorem sl_listK {X : Cx} {K : PySem.W.Frag} (hK : X.K = K) : SlR X (rSlL K) := by
  subst hK
  exact sl_list
/-- the promise of a def that gives back no list that was there -/
def SpO {α : Type} (Pre : α → Prop) (In : α → List V → Hp → Prop) (Out : α → V → Hp → Prop) : Sp := fun vs H Q _ => ∃ a, Pre a ∧ In a vs H ∧ ∀ v H', Same H H' → Out a v H' → Off H v → Q v H'
section
variable {P : Program} {w : World} {K : PySem.W.Frag} {mg : Str → Option Value} {base : Heap}
theorem DefAt.okO {x : Str} {st : Stmt} {ps N : List Str} {k : Nat} {α : Type} {Pre : α → Prop} {In : α → List V → Hp → Prop} {Out : α → V → Hp → Prop} (D : DefAt K mg x st ps) (S : FnScope N ps (defScope st))
    (len : ∀ a vs H, In a vs H → vs.length = ps.length)
    (body : ∀ (f : Addr) (cdv : Value) (A : Around) (outer : List Env) (s : Shared) (H : Hp) (vs : List V) (E : XK) (a : α), Room k (A.deeper (envOfC x (defScope st) s.heap.objs.size f cdv)) → Pre a → In a vs H →
      ∃ t, PSs (cxOf CX0 P w K mg base N x (defScope st) f cdv A outer s H E).nox (defBody st) t ∧ ∀ Q : VK, (∀ v H', Same H H' → Out a v H' → Off H v → Q v H') → t { nx := fun _ H' => Q .non H', rt := Q } (start N vs) H) :
    Dk P w K mg base (k + 1) x ps (SpO Pre In Out) := by
  obtain ⟨f, fd, hg, F, b⟩ := D.ex
  refine ⟨f, fd, hg, F.kp, F.ok S (fun vs H Q E ⟨a, _, i, _⟩ => len a vs H i) (fun cdv A outer s H vs Q E hr ⟨a, p, i, q⟩ => ?_), b⟩
  obtain ⟨t, h1, h2⟩ := body f cdv A outer s H vs E a hr p i
  exact ⟨t, h1, h2 Q q⟩
theorem MethAt.okO {C : Addr} {m qual : Str} {st : Stmt} {ps N : List Str} {k : Nat} {α : Type} {Pre : α → Prop} {In : α → List V → Hp → Prop} {Out : α → V → Hp → Prop} (D : MethAt K C m qual st ps) (S : FnScope N ps (defScope st))
    (len : ∀ a vs H, In a vs H → vs.length = ps.length)
    (body : ∀ (f : Addr) (cdv : Value) (A : Around) (outer : List Env) (s : Shared) (H : Hp) (vs : List V) (E : XK) (a : α), Room k (A.deeper (envOfC qual (defScope st) s.heap.objs.size f cdv)) → Pre a → In a vs H →
      ∃ t, PSs (cxOf CX0 P w K mg base N qual (defScope st) f cdv A outer s H E).nox (defBody st) t ∧ ∀ Q : VK, (∀ v H', Same H H' → Out a v H' → Off H v → Q v H') → t { nx := fun _ H' => Q .non H', rt := Q } (start N vs) H) :
    Dm P w K mg base (k + 1) C m ps (SpO Pre In Out) := by
  obtain ⟨f, fd, hg, F, b⟩ := D.ex
  refine ⟨f, fd, hg, F.ok S (fun vs H Q E ⟨a, _, i, _⟩ => len a vs H i) (fun cdv A outer s H vs Q E hr ⟨a, p, i, q⟩ => ?_), b⟩
  obtain ⟨t, h1, h2⟩ := body f cdv A outer s H vs E a hr p i
  exact ⟨t, h1, h2 Q q⟩
end
section
variable {X : Cx} {CX : CXT}
theorem Dm.call0 {k n : Nat} {C : Addr} {m : Str} {ps : List Str} {sp : Sp} {o : Expr} {to : TE} {apos pos : Pos} {pl : Sem Bool} (D : Dm X.prog X.w X.K X.mg X.base k C m ps sp) (hr : Room n X.A) (hk : k ≤ n) (c : Cls X.K C) (ho : PE X o to)
    (ht : eval (.Call (.Attribute o m apos) [] [] pos) X.env = (do
      let ov ← eval o X.env
      standAt apos.atName
      let (f, first) ← holding [ov] (getMethod ov m pl)
      callWith pos f first (backTo pos (starEach [] X.env)) (backToKw pos (keywordEach [] X.env))) := by rfl) :
    PE X (.Call (.Attribute o m apos) [] [] pos) (tMeth C m sp [] E0 to tNil) := by
  obtain ⟨f, fd, hm, F, b⟩ := D.ex
  exact pe_meth0 ho c hm F (hr.mono hk) b .nil pass0 ht
theorem Di.call0 {k n : Nat} {C : Addr} {x : Str} {ps : List Str} {sp : Sp} {p pos : Pos} (D : Di X.prog X.w X.K X.mg X.base k C ps sp) (hr : Room n X.A) (hk : k + 1 ≤ n) (hg : Gl X x) (hm : X.mg x = some (.ref C))
    (hdb : (x == ("__debug__" : Str)) = false := by decide) :
    PE X (.Call (.Name x p) [] [] pos) (tMake C sp [] E0 tNil) := by
  obtain ⟨f, fd, M, F, b⟩ := D.ex
  exact pe_make0 M F (hr.mono hk) hg hm b .nil pass0 hdb
end
section
variable {σ : L2.St} {H : Hp} {te ta tb tc tl : TE} {P P1 P2 : V → Hp → Prop} {A : List V → Hp → Prop} {K : PySem.W.Frag}
theorem off_back {H H1 : Hp} {v : V} (e : Same H H1) (h : Off H1 v) : Off H v := fun D us hd => h D us (e _ _ hd)
theorem y_callO {α : Type} {Pre : α → Prop} {In : α → List V → Hp → Prop} {Out : α → V → Hp → Prop} {E : XK} {ta : TA} (a : α) (hp : Pre a) (h : YA ta σ H (In a)) : YO (tCall (SpO Pre In Out) [] E ta) σ H (Out a) := fun H1 e Q q =>
  h H1 e _ fun vs H2 e2 i => ⟨a, hp, by rw [List.append_nil]; exact i, fun v H3 e3 o f => q v H3 (e2.trans e3) o (off_back e2 f)⟩
theorem YO.up (h : YO te σ H P) {H' : Hp} (e : Same H H') : YO te σ H' P := fun H1 e1 Q q => h H1 (e.trans e1) Q q
theorem YO.imp (h : YO te σ H P1) (k : ∀ v H', Same H H' → P1 v H' → P2 v H') : YO te σ H P2 := fun H1 e1 Q q => h H1 e1 Q fun v H2 e2 p => q v H2 e2 (k v H2 (e1.trans e2) p)
theorem YO.toL {α : Type} {R : α → V → Hp → Prop} {x y : List α} (h : YO te σ H (IsL R x)) (e : x = y) : YO te σ H (IsL R y) := by
  subst e
  exact h
theorem Y.toL {α : Type} {R : α → V → Hp → Prop} {x y : List α} (h : Y te σ H (IsL R x)) (e : x = y) : Y te σ H (IsL R y) := by
  subst e
  exact h
theorem Y.toT {x y : List Int} (h : Y te σ H (IsTs x)) (e : x = y) : Y te σ H (IsTs y) := by
  subst e
  exact h
theorem Y.toN {x y : Int} (h : Y te σ H (IsN x)) (e : x = y) : Y te σ H (IsN y) := by
  subst e
  exact h
theorem Y.toB {x y : Bool} (h : Y te σ H (IsB x)) (e : x = y) : Y te σ H (IsB y) := by
  subst e
  exact h
theorem y_eqI {i j : Int} (ha : Y ta σ H (IsN i)) (hb : Y tb σ H (IsN j)) : Y (tOp rEq ta tb) σ H (IsB (decide (i = j))) := (y_eq ha hb rfl).toB (by simp)
theorem y_neI {i j : Int} (ha : Y ta σ H (IsN i)) (hb : Y tb σ H (IsN j)) : Y (tOp rNe ta tb) σ H (IsB (!decide (i = j))) := (y_ne ha hb rfl).toB (by simp)
/-- a call of a value that is there -/
theorem y_callV {α : Type} {Pre : α → Prop} {In : α → List V → Hp → Prop} {Out : α → V → Hp → Prop} {E : XK} {ta : TA} (a : α) (hp : Pre a) (h : YA ta σ H A) (hi : ∀ vs H', Same H H' → A vs H' → In a vs H') : Y (tCall (SpF Pre In Out) [] E ta) σ H (Out a) := y_call a hp (h.imp hi)
/-! new lists -/
theorem yo_lst {ta : TA} (h : YA ta σ H A) [MonoA A] (hl : ∀ vs H', A vs H' → vs.length ≤ 1000) (hp : ∀ vs p H', A vs H' → H' p = some (.lst vs) → P (.ref p) H') : YO (tLst ta) σ H P := fun H1 e Q q =>
  h H1 e _ fun vs H2 e2 a => ⟨Nat.le_trans (hl _ _ a) (by decide), fun p np => q _ _ (e2.trans (Same.new np)) (hp vs p _ (MonoA.mono (Same.new np) a) upd_same) fun D us hd z => by
    cases z
    rw [e2 _ _ hd] at np
    cases np⟩
theorem yo_list0 : YO (tLst tNil) σ H (IsIs []) := yo_lst ya_nil (fun vs H' a => by rw [a]; decide) fun vs p H' a hp => isIs_mk (by rw [hp, a]; rfl)
theorem yo_list1 {n : Int} (h : Y te σ H (IsN n)) : YO (tLst (tCons te tNil)) σ H (IsIs [n]) := yo_lst (ya_cons h ya_nil) (fun vs H' ⟨v, r, a, b, c⟩ => by rw [a, c]; show 1 ≤ 1000; decide) fun vs p H' ⟨v, r, a, b, c⟩ hp => isIs_mk (by rw [hp, a, b, c]; rfl)
theorem yo_list2 {n m : Int} (h : Y ta σ H (IsN n)) (k : Y tb σ H (IsN m)) : YO (tLst (tCons ta (tCons tb tNil))) σ H (IsIs [n, m]) := yo_lst (ya_cons h (ya_cons k ya_nil)) (fun vs H' ⟨v, r, a, b, v2, r2, c, d, e⟩ => by rw [a, c, e]; show 2 ≤ 1000; decide) fun vs p H' ⟨v, r, a, b, v2, r2, c, d, e⟩ hp => isIs_mk (by rw [hp, a, b, c, d, e]; rfl)
/-- [x], x a thing -/
theorem yo_listR {α : Type} {R : α → V → Hp → Prop} [∀ x, Mono (R x)] {x : α} (h : Y te σ H (R x)) : YO (tLst (tCons te tNil)) σ H (IsL R [x]) := yo_lst (ya_cons h ya_nil) (fun vs H' ⟨v, r, a, b, c⟩ => by rw [a, c]; show 1 ≤ 1000; decide) fun vs p H' ⟨v, r, a, b, c⟩ hp => ⟨p, [v], rfl, by rw [hp, a, c], b, trivial⟩
theorem yo_listE {α : Type} {R : α → V → Hp → Prop} : YO (tLst tNil) σ H (IsL R []) := yo_lst ya_nil (fun vs H' a => by rw [a]; decide) fun vs p H' a hp => ⟨p, [], rfl, by rw [hp, a], trivial⟩
/-! objects -/
theorem y_fldO {f : Str} (h : Y ta σ H P1) (k : ∀ v H', P1 v H' → ∃ a C dx fs u, v = .ref a ∧ H' a = some (.ins C dx fs) ∧ Cls K C ∧ NoAttr K C f ∧ fs.lookup f = some u ∧ P u H') : Y (tFld K ta f) σ H P := fun H1 e Q q =>
  h H1 e _ fun v H2 e2 p => by
    obtain ⟨a, C, dx, fs, u, h1, h2, h3, h4, h5, h6⟩ := k v H2 p
    exact ⟨a, C, dx, fs, u, h1, h2, h3, h4, h5, q u H2 e2 h6⟩
/-- a new object: its __init__ stores its arguments as they come -/
def SpI (C : Addr) (fs : List V → Option (List (Str × V))) : Sp := fun vs H Q _ => ∃ x dx us l, vs = .ref x :: us ∧ H x = some (.ins C dx []) ∧ fs us = some l ∧ ∀ H', H' = upd H x (.ins C dx l) → Q .non H'
theorem yo_make {ta : TA} {C : Addr} {fs : List V → Option (List (Str × V))} (h : YA ta σ H A) [MonoA A] (hf : ∀ vs H', Same H H' → A vs H' → ∃ l, fs vs = some l ∧ ∀ x dx, H' x = none → ∀ H2, Same H' H2 → H2 x = some (.ins C dx l) → P (.ref x) H2) : YO (tMake C (SpI C fs) [] E0 ta) σ H P := fun H1 e Q q =>
  h H1 e _ fun vs H2 e2 a x dx hx hdx hne => by
    obtain ⟨l, h1, h2⟩ := hf vs H2 (e.trans e2) a
    have s : Same H2 (upd (upd H2 dx (.own x)) x (.ins C dx l)) := Same.mut (Same.new hdx) hx
    refine ⟨x, dx, vs, l, by rw [List.append_nil], upd_same, h1, fun H' hH => ⟨rfl, ?_⟩⟩
    rw [hH, upd_upd]
    refine q _ _ (e2.trans s) (h2 x dx hx _ s upd_same) fun D us hd z => ?_
    cases z
    rw [e2 _ _ hd] at hx
    cases hx
/-! statements -/
variable {D : Ends} {u t : TS}
theorem s_retO (h : YO te σ H P) (k : ∀ v H1, Same H H1 → P v H1 → Off H v → D.rt v H1) : tRet te D σ H := h H (Same.refl _) _ fun v H1 e p o => k v H1 e p o
theorem s_setO {i : Nat} (h : YO te σ H P) (k : ∀ v H1, Same H H1 → P v H1 → Off H v → u D (σ.set i (some v)) H1) : tSeq (tAsg te (gName i)) u D σ H :=
  h H (Same.refl _) _ fun v H1 e p o => k v H1 e p o
theorem s_setO1 {i : Nat} (h : YO te σ H P) (k : ∀ v H1, Same H H1 → P v H1 → Off H v → D.nx (σ.set i (some v)) H1) : tAsg te (gName i) D σ H :=
  h H (Same.refl _) _ fun v H1 e p o => k v H1 e p o
/-- a statement whose way on is what follows -/
theorem s_seq (h : t { D with nx := u D } σ H) : tSeq t u D σ H := h
theorem s_while {tb : TS} {c : TT} (W : Nat → L2.St → Hp → Prop) (h0 : ∃ m, W m σ H) (hs : ∀ m σ H, W m σ H → ∃ b, YT c σ H b ∧ (b = true → ∀ H1, Same H H1 → tb { D with nx := fun σ' H' => ∃ m', m' < m ∧ W m' σ' H', ct := fun σ' H' => ∃ m', m' < m ∧ W m' σ' H', bk := D.nx } σ H1) ∧ (b = false → ∀ H1, Same H H1 → D.nx σ H1)) :
    tWhile c tb D σ H := ⟨W, h0, fun m σ H w => by
  obtain ⟨b, y, h1, h2⟩ := hs m σ H w
  refine y H (Same.refl _) _ fun H1 e => ?_
  cases b with
  | true =>
    rw [if_pos rfl]
    exact ⟨_, fun _ _ h => h, h1 rfl H1 e⟩
  | false =>
    rw [if_neg Bool.false_ne_true]
    exact h2 rfl H1 e⟩
/-- a walk that changes nothing that was there -/
theorem s_for {wi : TI} {g : TG} {tb : TS} {n : Nat} {Yd : Nat → V → Hp → Prop} (hi : YI wi σ H n Yd) (Pv : Nat → L2.St → Hp → Prop) (h0 : ∀ H1, Same H H1 → Pv 0 σ H1)
    (hs : ∀ k, k < n → ∀ H0, Same H H0 → ∀ σ' H', Same H0 H' → Pv k σ' H' → ∀ x H2, Same H' H2 → Yd k x H2 → g x σ' H2 fun σ2 H3 => tb { D with nx := fun σ' H' => Pv (k + 1) σ' H' ∧ Same H0 H', ct := fun σ' H' => Pv (k + 1) σ' H' ∧ Same H0 H', bk := D.nx } σ2 H3)
    (hd : ∀ σ' H', Same H H' → Pv n σ' H' → D.nx σ' H') : tFor wi g tb D σ H := by
  refine hi H (Same.refl _) _ fun J H1 e G => ?_
  refine ⟨fun i m σ' H' => m = n - i ∧ i ≤ n ∧ Pv i σ' H' ∧ Same H1 H', ⟨n, rfl, Nat.zero_le _, h0 _ e, Same.refl _⟩, ?_⟩
  rintro i m σ' H' ⟨rfl, hin, hp, s⟩
  by_cases hlt : i < n
  · refine .inr ⟨G.go i hlt _ s, fun σ2 H3 => Pv (i + 1) σ2 H3 ∧ Same H1 H3, fun σ2 H3 h => ⟨n - (i + 1), by omega, rfl, by omega, h.1, h.2⟩, fun x H2 y => ?_⟩
    obtain ⟨s2, hY⟩ := G.yld i hlt _ s x H2 y
    exact hs i hlt H1 e σ' H' s hp x H2 s2 hY
  · have ee : i = n := by omega
    subst ee
    exact .inl ⟨G.stop _ s, hd _ _ (e.trans s) hp⟩
/-- a walk over the numbers 0, 1, .. (what is changed within is the invariant's business) -/
theorem s_forR {ta : TA} {i : Nat} {tb : TS} {n : Int} (hn : n < 2 ^ 62) (hm : -(2 ^ 62) ≤ n) (h : YA ta σ H (AC (IsN n) AN)) (Pv : Nat → L2.St → Hp → Prop) (h0 : ∀ H1, Same H H1 → Pv 0 σ H1)
    (hs : ∀ k, k < n.toNat → ∀ σ' H', Pv k σ' H' → tb { D with nx := Pv (k + 1), ct := Pv (k + 1), bk := D.nx } (σ'.set i (some (.int (k : Int)))) H')
    (hd : ∀ σ' H', Pv n.toNat σ' H' → D.nx σ' H') : tFor (iRng1 ta) (gName i) tb D σ H := by
  refine h H (Same.refl _) _ fun vs H2 e2 ⟨v, rr, a, b, c⟩ => ⟨n, by rw [a, b, c], hm, hn, ?_⟩
  refine for_range (lo := 0) (n := n.toNat) Pv (h0 _ e2) (fun k σ' H' hk hp => ?_) hd
  have := hs k hk σ' H' hp
  show tb _ (σ'.set i (some (.int (0 + (k : Int))))) H'
  rw [Int.zero_add]
  exact this
/-- a walk over the numbers m, m + 1, .. n - 1 -/
theorem s_forR2 {ta : TA} {i : Nat} {tb : TS} {m n : Int} (h1 : 0 ≤ m) (h2 : m < 2 ^ 62) (h3 : 0 ≤ n) (h4 : n < 2 ^ 62) (h : YA ta σ H (AC (IsN m) (AC (IsN n) AN))) (Pv : Nat → L2.St → Hp → Prop) (h0 : ∀ H1, Same H H1 → Pv 0 σ H1)
    (hs : ∀ k, k < (n - m).toNat → ∀ σ' H', Pv k σ' H' → tb { D with nx := Pv (k + 1), ct := Pv (k + 1), bk := D.nx } (σ'.set i (some (.int (m + (k : Int))))) H')
    (hd : ∀ σ' H', Pv (n - m).toNat σ' H' → D.nx σ' H') : tFor (iRng2 ta) (gName i) tb D σ H := by
  refine h H (Same.refl _) _ fun vs H2 e2 ⟨v, rr, a, b, v2, r2, a2, b2, c⟩ => ⟨m, n, by rw [a, b, a2, b2, c], ⟨by omega, h2, by omega, h4⟩, ?_⟩
  exact for_range (lo := m) (n := (n - m).toNat) Pv (h0 _ e2) (fun k σ' H' hk hp => hs k hk σ' H' hp) hd
/-- a walk over a list that stands still -/
theorem s_forL {tb : TS} {g : TG} (h : Y tl σ H P) (k : ∀ v H2, Same H H2 → P v H2 → ∃ (p : Addr) (vs : List V) (Pv : Nat → L2.St → Hp → Prop), v = .ref p ∧ Pv 0 σ H2 ∧ (∀ i σ' H', Pv i σ' H' → H' p = some (.lst vs)) ∧
      (∀ i x σ' H', vs[i]? = some x → Pv i σ' H' → g x σ' H' fun σ2 H3 => tb { D with nx := Pv (i + 1), ct := Pv (i + 1), bk := D.nx } σ2 H3) ∧ ∀ σ' H', Pv vs.length σ' H' → D.nx σ' H') : tFor (iList K tl) g tb D σ H := by
  refine h H (Same.refl _) _ fun v H2 e2 p2 => ?_
  obtain ⟨p, vs, Pv, h1, h2, h3, h4, h5⟩ := k v H2 e2 p2
  exact ⟨p, h1, ⟨vs, SqL.of (h3 _ _ _ h2)⟩, for_list (xs := vs) Pv h2 (fun i σ' H' _ hp => SqL.of (h3 _ _ _ hp)) (fun i x σ' H' hx hp => h4 i x σ' H' hx hp) h5⟩
/-- xs.append(e) -/
theorem s_append {ta : TA} {d : Addr} {xs : List V} (ho : Y te σ H (IsV (.ref d))) (hd : H d = some (.lst xs)) (hl : xs.length < 100000) (h : YA ta σ H A) (k : ∀ v vs H1, vs = [v] → Same H H1 → A vs H1 → H1 d = some (.lst xs) → D.nx σ (upd H1 d (.lst (xs ++ [v])))) (h1 : ∀ vs H1, A vs H1 → vs.length = 1) : tDrop (tBM K "list" rAppend te ta) D σ H :=
  ho H (Same.refl _) _ fun x H1 e hx => by
    cases hx
    refine ⟨.inl ⟨rfl, _, SqL.of (e _ _ hd)⟩, h H1 e _ fun vs H2 e2 a => ?_⟩
    have := h1 vs H2 a
    match vs, this, a with
    | [v], _, a => exact ⟨d, xs, v, rfl, rfl, e2 _ _ (e _ _ hd), Nat.lt_of_lt_of_le hl (by decide), k v [v] H2 rfl (e.trans e2) a (e2 _ _ (e _ _ hd))⟩
/-- xs.extend(ys) -/
theorem s_extend {ta : TA} {d : Addr} {xs : List V} {ns : List Int} (ho : Y te σ H (IsV (.ref d))) (hd : H d = some (.lst xs)) (hl : xs.length + ns.length ≤ 100000) (h : YA ta σ H (AC (IsIs ns) AN)) (k : ∀ H1, Same H H1 → H1 d = some (.lst xs) → D.nx σ (upd H1 d (.lst (xs ++ ns.map V.int)))) : tDrop (tBM K "list" rExtend te ta) D σ H :=
  ho H (Same.refl _) _ fun x H1 e hx => by
    cases hx
    refine ⟨.inl ⟨rfl, _, SqL.of (e _ _ hd)⟩, h H1 e _ fun vs H2 e2 ⟨v, r, a, b, c⟩ => ?_⟩
    obtain ⟨p, e3, e4⟩ := isIs_iff.mp b
    subst e3 a c
    exact ⟨d, p, xs, _, rfl, rfl, e2 _ _ (e _ _ hd), e4, by rw [List.length_map]; exact Nat.le_trans hl (by decide), k H2 (e.trans e2) (e2 _ _ (e _ _ hd))⟩
end
end WK

/- WkF1 -/
/-! The defs: limits. -/
namespace WK
open PySem PySem.Spec PyProof.Rows L2
section
variable {P : Program} {w : World} {K : PySem.W.Frag} {mg : Str → Option Value} {base : Heap} {CI CC CS CP : Addr}

theorem sc_is_variables : FnScope ["number"] ["number"] (defScope (top 11)) := ⟨rfl, rfl, rfl, by decide +kernel, rfl, by decide +kernel, by decide +kernel⟩
theorem d_is_variables (T : Txt K mg CI CC CS CP) : Dk P w K mg base 1 "is_variables" ["number"]
    (SpF (fun _ => True) (fun (n : Int) => AC (IsN n) AN) (fun n => IsB (decide (1 ≤ n) && decide (n ≤ 5)))) := by
  refine T.d_is_variables.ok (N := ["number"]) sc_is_variables (fun a vs H h => len1 h) ?_
  intro f cdv A outer s H vs E n hr _ ⟨v, r, e1, hv, e2⟩
  subst e1 e2
  cases hv
  obtain ⟨_, hg_MOST_VARIABLES⟩ := T.k_MOST_VARIABLES
  refine ⟨_, (pss_one (ps_ret (pe_chain op_le op_le pe_int (pv 0) (pe_glob (v := .int 5) rfl hg_MOST_VARIABLES ⟨_, rfl⟩)))), fun Q q => ?_⟩
  exact s_ret (y_chain y_c (y_val rfl) y_c) q
theorem sc_is_coefficient : FnScope ["number"] ["number"] (defScope (top 12)) := ⟨rfl, rfl, rfl, by decide +kernel, rfl, by decide +kernel, by decide +kernel⟩
theorem d_is_coefficient (T : Txt K mg CI CC CS CP) : Dk P w K mg base 1 "is_coefficient" ["number"]
    (SpF (fun _ => True) (fun (n : Int) => AC (IsN n) AN) (fun n => IsB (CB.isCoefM n))) := by
  refine T.d_is_coefficient.ok (N := ["number"]) sc_is_coefficient (fun a vs H h => len1 h) ?_
  intro f cdv A outer s H vs E n hr _ ⟨v, r, e1, hv, e2⟩
  subst e1 e2
  cases hv
  obtain ⟨_, hg_GREATEST_COEFFICIENT⟩ := T.k_GREATEST_COEFFICIENT
  refine ⟨_, (pss_one (ps_ret (pe_cmpR op_le (pe_callB call_abs (by rfl) T.b_abs PyProof.Rows.boot_abs (pa_cons (pv 0) pa_nil)) (pe_glob (v := .int 1000) rfl hg_GREATEST_COEFFICIENT ⟨_, rfl⟩) (nomark _)))), fun Q q => ?_⟩
  exact s_ret (y_I0 (y_abs (ya_cons (y_val rfl) ya_nil)) y_c) q
theorem sc_are_coefficients : FnScope ["numbers", "width", "number"] ["numbers", "width"] (defScope (top 13)) := ⟨rfl, rfl, rfl, by decide +kernel, rfl, by decide +kernel, by decide +kernel⟩
theorem d_are_coefficients (T : Txt K mg CI CC CS CP) (D_is_coefficient : Dk P w K mg base 1 "is_coefficient" ["number"]
    (SpF (fun _ => True) (fun (n : Int) => AC (IsN n) AN) (fun n => IsB (CB.isCoefM n)))) : Dk P w K mg base 2 "are_coefficients" ["numbers", "width"]
    (SpF (fun a => a.1.length ≤ 100000) (fun (a : List Int × Nat) => AC (IsIs a.1) (AC (IsN (a.2 : Int)) AN)) (fun a => IsB (CB.areCoefM a.1 a.2))) := by
  refine T.d_are_coefficients.ok (N := ["numbers", "width", "number"]) sc_are_coefficients (fun a vs H h => len2 h) ?_
  intro f cdv A outer s H vs E a hr hl ⟨v, r, e1, hv, v2, r2, e2, hv2, e3⟩
  subst e1 e2 e3
  cases hv2
  refine ⟨_, (pss_one (ps_ret (pe_and (pe_cmpR op_eq (pe_callB call_len_seq (by rfl) T.b_len PySem.boot_len (pa_cons (pv 0) pa_nil)) (pv 1) (nomark _)) (pe_one (pe_callB (cr_all rfl) (by rfl) T.b_all PyProof.Rows.boot_all (pa_cons (pe_lc (own := [("number", 2)]) (g := (gName 2)) (tt := tYes) rfl sc_are_coefficients.nd (pi_list (pv 0)) (blkOk_by (own := [("number", 2)]) (N := ["numbers", "width", "number"]) (sc := defScope (top 13)) (by decide +kernel)) (fun _ _ _ _ _ => (pg_name (i := 2) sc_are_coefficients.nd rfl (.inl rfl))) (fun _ _ _ _ _ => pts_nil) (fun _ _ _ _ _ => (D_is_coefficient.call hr (by decide) (by rfl) (pa_cons (pv 2) pa_nil)))) pa_nil)))))), fun Q q => ?_⟩
  refine s_ret (y_andV (y_eqI (y_len (ya_cons (y_var rfl hv) ya_nil)) (y_val rfl)) fun _ => y_all (ya_cons (y_map (T := RB) (f := CB.isCoefM) hl (y_var rfl hv) (fun _ => rfl) fun n _ x H3 s3 hx => yo_B (y_call n trivial (ya_cons (y_var rfl hx) ya_nil))) ya_nil)) fun v H1 s1 p => q v H1 s1 ?_
  rw [show CB.areCoefM a.1 a.2 = _ from rfl]
  rw [p, List.all_map]
  show V.bl _ = V.bl _
  congr 2
  exact decide_eq_decide.mpr (by omega)
theorem sc_is_vector : FnScope ["nums", "dens", "width", "den"] ["nums", "dens", "width"] (defScope (top 14)) := ⟨rfl, rfl, rfl, by decide +kernel, rfl, by decide +kernel, by decide +kernel⟩
theorem d_is_vector (T : Txt K mg CI CC CS CP) : Dk P w K mg base 1 "is_vector" ["nums", "dens", "width"]
    (SpF (fun a => a.1.length ≤ 100000 ∧ a.2.1.length ≤ 100000) (fun (a : List Int × List Int × Nat) => AC (IsIs a.1) (AC (IsIs a.2.1) (AC (IsN (a.2.2 : Int)) AN))) (fun a => IsB (CB.isVecM a.1 a.2.1 a.2.2))) := by
  refine T.d_is_vector.ok (N := ["nums", "dens", "width", "den"]) sc_is_vector (fun a vs H h => len3 h) ?_
  intro f cdv A outer s H vs E a hr hl ⟨v, r, e1, hv, v2, r2, e2, hv2, v3, r3, e3, hv3, e4⟩
  subst e1 e2 e3 e4
  cases hv3
  refine ⟨_, (pss_cons (ps_if (PW.pt (pw_or (pt_cmpR op_ne (pe_callB call_len_seq (by rfl) T.b_len PySem.boot_len (pa_cons (pv 0) pa_nil)) (pv 2) (nomark _)) (pw_or1 (pt_cmpR op_ne (pe_callB call_len_seq (by rfl) T.b_len PySem.boot_len (pa_cons (pv 1) pa_nil)) (pv 2) (nomark _))))) (pss_one (ps_ret pe_bl)) pss_nil) (pss_one (ps_ret (pe_callB (cr_all rfl) (by rfl) T.b_all PyProof.Rows.boot_all (pa_cons (pe_lc (own := [("den", 3)]) (g := (gName 3)) (tt := tYes) rfl sc_is_vector.nd (pi_list (pv 1)) (blkOk_by (own := [("den", 3)]) (N := ["nums", "dens", "width", "den"]) (sc := defScope (top 14)) (by decide +kernel)) (fun _ _ _ _ _ => (pg_name (i := 3) sc_is_vector.nd rfl (.inl rfl))) (fun _ _ _ _ _ => pts_nil) (fun _ _ _ _ _ => (pe_cmpR op_ge (pv 3) pe_int (nomark _)))) pa_nil))))), fun Q q => ?_⟩
  refine s_if (yt_or (yt_B (y_neI (y_len (ya_cons (y_var rfl hv) ya_nil)) (y_val rfl))) fun _ => yt_B (y_neI (y_len (ya_cons (y_var rfl hv2) ya_nil)) (y_val rfl))) (fun h H1 s1 => s_ret y_c fun v H2 s2 p => q v H2 (s1.trans s2) ?_)
    fun h H1 s1 => (s_ret (Y.up (y_all (ya_cons (y_map (T := RB) (f := fun d => decide (d ≥ 1)) hl.2 (y_var rfl hv2) (fun _ => rfl) fun n _ x H3 s3 hx => yo_B (y_I0 (y_var rfl hx) y_c)) ya_nil)) s1) fun v H2 s2 p => q v H2 (s1.trans s2) ?_)
  · have : a.1.length ≠ a.2.2 ∨ a.2.1.length ≠ a.2.2 := by
      simp only [Bool.or_eq_true, Bool.not_eq_true', decide_eq_false_iff_not] at h
      omega
    rw [p, show CB.isVecM a.1 a.2.1 a.2.2 = _ from rfl]
    unfold CB.isVecM
    rw [if_pos this]
    rfl
  · have : ¬ (a.1.length ≠ a.2.2 ∨ a.2.1.length ≠ a.2.2) := by
      simp only [Bool.or_eq_false_iff, Bool.not_eq_false', decide_eq_true_eq] at h
      omega
    rw [p, List.all_map]
    unfold CB.isVecM
    rw [if_neg this]
    rfl
theorem sc_are_demands : FnScope ["numbers", "number"] ["numbers"] (defScope (top 15)) := ⟨rfl, rfl, rfl, by decide +kernel, rfl, by decide +kernel, by decide +kernel⟩
theorem d_are_demands (T : Txt K mg CI CC CS CP) : Dk P w K mg base 1 "are_demands" ["numbers"]
    (SpF (fun a => a.length ≤ 100000) (fun (a : List Int) => AC (IsIs a) AN) (fun a => IsB (CB.areDemM a))) := by
  refine T.d_are_demands.ok (N := ["numbers", "number"]) sc_are_demands (fun a vs H h => len1 h) ?_
  intro f cdv A outer s H vs E a hr hl ⟨v, r, e1, hv, e2⟩
  subst e1 e2
  obtain ⟨_, hg_GREATEST_DEMAND⟩ := T.k_GREATEST_DEMAND
  obtain ⟨_, hg_MOST_QUEUES⟩ := T.k_MOST_QUEUES
  refine ⟨_, (pss_cons (ps_if (pt_not (pt_chain op_le op_le pe_int (pe_callB call_len_seq (by rfl) T.b_len PySem.boot_len (pa_cons (pv 0) pa_nil)) (pe_glob (v := .int 8) rfl hg_MOST_QUEUES ⟨_, rfl⟩))) (pss_one (ps_ret pe_bl)) pss_nil) (pss_one (ps_ret (pe_callB (cr_all rfl) (by rfl) T.b_all PyProof.Rows.boot_all (pa_cons (pe_lc (own := [("number", 1)]) (g := (gName 1)) (tt := tYes) rfl sc_are_demands.nd (pi_list (pv 0)) (blkOk_by (own := [("number", 1)]) (N := ["numbers", "number"]) (sc := defScope (top 15)) (by decide +kernel)) (fun _ _ _ _ _ => (pg_name (i := 1) sc_are_demands.nd rfl (.inl rfl))) (fun _ _ _ _ _ => pts_nil) (fun _ _ _ _ _ => (pe_chain op_le op_le pe_int (pv 1) (pe_glob (v := .int 1000) rfl hg_GREATEST_DEMAND ⟨_, rfl⟩)))) pa_nil))))), fun Q q => ?_⟩
  refine s_if (yt_not (yt_test (y_chain y_c (y_len (ya_cons (y_var rfl hv) ya_nil)) y_c))) (fun h H1 s1 => s_ret y_c fun v H2 s2 p => q v H2 (s1.trans s2) ?_)
    fun h H1 s1 => (s_ret (Y.up (y_all (ya_cons (y_map (T := RB) (f := CB.isDemM) hl (y_var rfl hv) (fun _ => rfl) fun n _ x H3 s3 hx => yo_B (y_chain y_c (y_var rfl hx) y_c)) ya_nil)) s1) fun v H2 s2 p => q v H2 (s1.trans s2) ?_)
  · have : ¬ (1 ≤ a.length ∧ a.length ≤ 8) := by
      simp only [Bool.not_eq_true', Bool.and_eq_false_iff, decide_eq_false_iff_not] at h
      omega
    rw [p]
    unfold CB.areDemM
    rw [if_pos this]
    rfl
  · have : ¬ ¬ (1 ≤ a.length ∧ a.length ≤ 8) := by
      simp only [Bool.not_eq_false', Bool.and_eq_true, decide_eq_true_eq] at h
      omega
    rw [p, List.all_map]
    unfold CB.areDemM
    rw [if_neg this]
    rfl
theorem sc_is_cycle : FnScope ["think", "customers", "demands"] ["think", "customers", "demands"] (defScope (top 16)) := ⟨rfl, rfl, rfl, by decide +kernel, rfl, by decide +kernel, by decide +kernel⟩
theorem d_is_cycle (T : Txt K mg CI CC CS CP) (D_are_demands : Dk P w K mg base 1 "are_demands" ["numbers"]
    (SpF (fun a => a.length ≤ 100000) (fun (a : List Int) => AC (IsIs a) AN) (fun a => IsB (CB.areDemM a)))) : Dk P w K mg base 2 "is_cycle" ["think", "customers", "demands"]
    (SpF (fun a => a.2.2.length ≤ 100000) (fun (a : Int × Int × List Int) => AC (IsN a.1) (AC (IsN a.2.1) (AC (IsIs a.2.2) AN))) (fun a => IsB (CB.isCycM a.1 a.2.1 a.2.2))) := by
  refine T.d_is_cycle.ok (N := ["think", "customers", "demands"]) sc_is_cycle (fun a vs H h => len3 h) ?_
  intro f cdv A outer s H vs E a hr hl ⟨v, r, e1, hv, v2, r2, e2, hv2, v3, r3, e3, hv3, e4⟩
  subst e1 e2 e3 e4
  cases hv
  cases hv2
  obtain ⟨_, hg_MOST_CUSTOMERS⟩ := T.k_MOST_CUSTOMERS
  obtain ⟨_, hg_GREATEST_THINK⟩ := T.k_GREATEST_THINK
  refine ⟨_, (pss_cons (ps_if (pt_not (pt_chain op_le op_le pe_int (pv 0) (pe_glob (v := .int 10000) rfl hg_GREATEST_THINK ⟨_, rfl⟩))) (pss_one (ps_ret pe_bl)) pss_nil) (pss_one (ps_ret (pe_and (pe_chain op_le op_le pe_int (pv 1) (pe_glob (v := .int 40) rfl hg_MOST_CUSTOMERS ⟨_, rfl⟩)) (pe_one (D_are_demands.call hr (by decide) (by rfl) (pa_cons (pv 2) pa_nil))))))), fun Q q => ?_⟩
  refine s_if (yt_not (yt_test (y_chain y_c (y_val rfl) y_c))) (fun h H1 s1 => s_ret y_c fun v H2 s2 p => q v H2 (s1.trans s2) ?_)
    fun h H1 s1 => (s_ret (Y.up (y_andV (y_chain y_c (y_val rfl) y_c) fun _ => y_call a.2.2 hl (ya_cons (y_var rfl hv3) ya_nil)) s1) fun v H2 s2 p => q v H2 (s1.trans s2) ?_)
  · have : ¬ (0 ≤ a.1 ∧ a.1 ≤ 10000) := by
      simp only [Bool.not_eq_true', Bool.and_eq_false_iff, decide_eq_false_iff_not] at h
      omega
    rw [p]
    unfold CB.isCycM
    rw [if_pos this]
    rfl
  · have : ¬ ¬ (0 ≤ a.1 ∧ a.1 ≤ 10000) := by
      simp only [Bool.not_eq_false', Bool.and_eq_true, decide_eq_true_eq] at h
      omega
    rw [p]
    unfold CB.isCycM
    rw [if_neg this]
    show V.bl _ = V.bl _
    congr 1
    by_cases c : 1 ≤ a.2.1 ∧ a.2.1 ≤ 40
    · rw [if_neg (not_not_intro c), decide_eq_true c.1, decide_eq_true c.2]
      rfl
    · rw [if_pos c]
      by_cases c1 : 1 ≤ a.2.1
      · rw [decide_eq_true c1, decide_eq_false (fun c2 => c ⟨c1, c2⟩)]
        rfl
      · rw [decide_eq_false c1]
        rfl
theorem sc_is_most : FnScope ["number"] ["number"] (defScope (top 17)) := ⟨rfl, rfl, rfl, by decide +kernel, rfl, by decide +kernel, by decide +kernel⟩
theorem d_is_most (T : Txt K mg CI CC CS CP) : Dk P w K mg base 1 "is_most" ["number"]
    (SpF (fun _ => True) (fun (n : Int) => AC (IsN n) AN) (fun n => IsB (decide (0 ≤ n) && decide (n ≤ 12)))) := by
  refine T.d_is_most.ok (N := ["number"]) sc_is_most (fun a vs H h => len1 h) ?_
  intro f cdv A outer s H vs E n hr _ ⟨v, r, e1, hv, e2⟩
  subst e1 e2
  cases hv
  obtain ⟨_, hg_GREATEST_MOST⟩ := T.k_GREATEST_MOST
  refine ⟨_, (pss_one (ps_ret (pe_chain op_le op_le pe_int (pv 0) (pe_glob (v := .int 12) rfl hg_GREATEST_MOST ⟨_, rfl⟩)))), fun Q q => ?_⟩
  exact s_ret (y_chain y_c (y_val rfl) y_c) q
end
end WK

/- WkF2 -/
/-! The defs: points. -/
namespace WK
open PySem PySem.Spec PyProof.Rows L2

theorem BdL.at {B : Nat} {xs : List Int} {k : Nat} {a : Int} (h : BdL B xs) (e : xs[k]? = some a) : a.natAbs < 2 ^ B := h a (List.mem_of_getElem? e)
theorem BdL.last {B : Nat} {xs : List Int} (h : BdL B xs) : (xs.getLastD 0).natAbs < 2 ^ B := by
  rw [List.getLastD_eq_getLast?]
  cases e : xs.getLast? with
  | none => exact Nat.pos_of_ne_zero (by simp)
  | some a => exact h a (List.mem_of_getLast? e)
theorem BdL.init {B : Nat} {xs : List Int} (h : BdL B xs) : BdL B xs.dropLast := h.sub fun m hm => List.dropLast_subset _ hm
theorem BdL.app {B : Nat} {xs ys : List Int} (h : BdL B xs) (k : BdL B ys) : BdL B (xs ++ ys) := fun n hn => (List.mem_append.mp hn).elim (h n) (k n)
/-- the sum of so many products -/
theorem sum_bd {B : Nat} : ∀ (l : List Int), (∀ x ∈ l, x.natAbs < 2 ^ B) → l.sum.natAbs ≤ l.length * 2 ^ B
  | [], _ => by simp
  | x :: l, h => by
    have h1 := h x (List.mem_cons_self ..)
    have h2 := sum_bd l fun y hy => h y (List.mem_cons_of_mem _ hy)
    rw [List.sum_cons, List.length_cons, Nat.succ_mul]
    omega
theorem mem_zipWith {f : Int → Int → Int} {a b : List Int} {x : Int} (h : x ∈ List.zipWith f a b) : ∃ u v, u ∈ a ∧ v ∈ b ∧ x = f u v := by
  induction a generalizing b with
  | nil => simp at h
  | cons p a ih =>
    cases b with
    | nil => simp at h
    | cons q b =>
      rw [List.zipWith_cons_cons] at h
      rcases List.mem_cons.mp h with h | h
      · exact ⟨p, q, List.mem_cons_self .., List.mem_cons_self .., h⟩
      · obtain ⟨u, v, h1, h2, h3⟩ := ih h
        exact ⟨u, v, List.mem_cons_of_mem _ h1, List.mem_cons_of_mem _ h2, h3⟩
theorem idot_bd {B C : Nat} {a b : List Int} (ha : BdL B a) (hb : BdL C b) (hl : a.length ≤ 1024) : (CB.idot a b).natAbs < 2 ^ (B + C + 11) := by
  unfold CB.idot
  have h1 := sum_bd (B := B + C) (List.zipWith (fun x y => x * y) a b) fun x hx => by
    obtain ⟨u, v, hu, hv, e⟩ := mem_zipWith hx
    rw [e]
    exact bd_mul (ha u hu) (hb v hv)
  have h2 : (List.zipWith (fun x y => x * y) a b).length ≤ 1024 := by
    rw [List.length_zipWith]
    omega
  have h3 : 0 < 2 ^ (B + C) := Nat.pow_pos (by decide)
  have e : 2 ^ (B + C + 11) = 2048 * 2 ^ (B + C) := by rw [Nat.pow_add, Nat.mul_comm]
  rw [e]
  calc _ ≤ _ := h1
    _ ≤ 1024 * 2 ^ (B + C) := Nat.mul_le_mul_right _ h2
    _ < _ := by omega
theorem pick_mem {α : Type} {f : α → α → α} (hf : ∀ a b, f a b = a ∨ f a b = b) : ∀ (l : List α) (x : α), l.foldl f x = x ∨ l.foldl f x ∈ l
  | [], _ => .inl rfl
  | y :: l, x => by
    rw [List.foldl_cons]
    rcases pick_mem hf l (f x y) with h | h
    · rw [h]
      rcases hf x y with e | e
      · exact .inl e
      · rw [e]
        exact .inr (List.mem_cons_self ..)
    · exact .inr (List.mem_cons_of_mem _ h)
theorem firstOf_mem {ps : List (List Int)} (h : ps ≠ []) : CB.firstOf ps ∈ ps := by
  unfold CB.firstOf CB.firstFrom
  have h0 : ps.getD 0 [] ∈ ps := by
    cases ps with
    | nil => exact absurd rfl h
    | cons a l => exact List.mem_cons_self ..
  rcases pick_mem (f := fun f p => if CB.comesBefore p f then p else f) (fun a b => by
    by_cases c : CB.comesBefore b a = true
    · exact .inr (if_pos c)
    · exact .inl (if_neg c)) ps (ps.getD 0 []) with e | e
  · rw [e]; exact h0
  · exact e
/-- a point: so many numbers, the last one positive -/
def PtB (n : Nat) (p : List Int) : Prop := p.length = n + 1 ∧ BdL 3000 p ∧ 0 < p.getLastD 0
theorem PtB.ne {n : Nat} {p : List Int} (h : PtB n p) : p ≠ [] := by
  intro e
  rw [e] at h
  cases h.1
theorem PtB.initlen {n : Nat} {p : List Int} (h : PtB n p) : p.dropLast.length = n := by
  rw [List.length_dropLast, h.1]
  rfl
section
variable {P : Program} {w : World} {K : PySem.W.Frag} {mg : Str → Option Value} {base : Heap} {CI CC CS CP : Addr}

abbrev SpDot : Sp := SpF (fun a => a.1.length = a.2.length ∧ a.1.length ≤ 1000 ∧ BdL 6100 a.1 ∧ BdL 6100 a.2) (fun (a : List Int × List Int) => AC (IsIs a.1) (AC (IsTs a.2) AN)) (fun a => IsN (CB.idot a.1 a.2))
theorem sc_dot : FnScope ["row", "point", "a", "b"] ["row", "point"] (defScope (top 19)) := ⟨rfl, rfl, rfl, by decide +kernel, rfl, by decide +kernel, by decide +kernel⟩
theorem d_dot (T : Txt K mg CI CC CS CP) : Dk P w K mg base 1 "dot" ["row", "point"] SpDot := by
  refine T.d_dot.ok (N := ["row", "point", "a", "b"]) sc_dot (fun a vs H h => len2 h) ?_
  intro f cdv A outer s H vs E a hr ⟨hl, hn, b1, b2⟩ ⟨v, r, e1, hv, v2, r2, e2, hv2, e3⟩
  subst e1 e2 e3
  refine ⟨_, (pss_one (ps_ret (pe_callB (cr_sum rfl) (by rfl) T.b_sum PyProof.Rows.boot_sum (pa_cons (pe_lc (own := [("a", 2), ("b", 3)]) (g := (gTup K 2 (gCons (gName 2) (gCons (gName 3) gNil)))) (tt := tYes) rfl sc_dot.nd (pi_zipM (by rfl) T.b_zip (pa_cons (pv 0) (pa_cons (pv 1) pa_nil))) (blkOk_by (own := [("a", 2), ("b", 3)]) (N := ["row", "point", "a", "b"]) (sc := defScope (top 19)) (by decide +kernel)) (fun _ _ _ _ _ => (pg_tup (by rfl) (pgs_cons (pg_name (i := 2) sc_dot.nd rfl (.inl rfl)) (pgs_cons (pg_name (i := 3) sc_dot.nd rfl (.inl rfl)) pgs_nil)))) (fun _ _ _ _ _ => pts_nil) (fun _ _ _ _ _ => (pe_op op_mulW (pv 2) (pv 3)))) pa_nil)))), fun Q q => ?_⟩
  refine s_ret (y_sum (ya_cons (yo_zip (K := K) (T := RN) (f := fun x y => x * y) (by omega) hl (yi_zipM hl (ya_cons (y_var rfl hv) (ya_cons (y_var rfl hv2) ya_nil))) (fun _ _ => rfl) fun k x y hx hy _ _ H3 _ hvx hvy => yo_N (y_mul (y_var rfl hvx) (y_var rfl hvy) (b1.at hx) (b2.at hy) (by decide) (by decide) (by decide))).y ya_nil)) q
abbrev SpGcd : Sp := SpF (fun _ => True) (fun (a : Int × Int) => AC (IsN a.1) (AC (IsN a.2) AN)) (fun a => IsN (Int.gcd a.1 a.2 : Int))
theorem sc_greatest_divisor : FnScope ["first", "second", "a", "b", "rest"] ["first", "second"] (defScope (top 20)) := ⟨rfl, rfl, rfl, by decide +kernel, rfl, by decide +kernel, by decide +kernel⟩
theorem d_greatest_divisor (T : Txt K mg CI CC CS CP) : Dk P w K mg base 1 "greatest_divisor" ["first", "second"] SpGcd := by
  refine T.d_greatest_divisor.ok (N := ["first", "second", "a", "b", "rest"]) sc_greatest_divisor (fun a vs H h => len2 h) ?_
  intro f cdv A outer s H vs E a hr _ ⟨v, r, e1, hv, v2, r2, e2, hv2, e3⟩
  subst e1 e2 e3
  cases hv
  cases hv2
  refine ⟨_, (pss_cons (ps_set (i := 2) sc_greatest_divisor.nd rfl (.inl rfl) (pe_callB call_abs (by rfl) T.b_abs PyProof.Rows.boot_abs (pa_cons (pv 0) pa_nil))) (pss_cons (ps_set (i := 3) sc_greatest_divisor.nd rfl (.inl rfl) (pe_callB call_abs (by rfl) T.b_abs PyProof.Rows.boot_abs (pa_cons (pv 1) pa_nil))) (pss_cons (ps_while PassesOwn.never (pt_cmpR op_gt (pv 3) pe_int (nomark _)) (pss_cons (ps_set (i := 4) sc_greatest_divisor.nd rfl (.inl rfl) (pe_op op_modN (pv 2) (pv 3))) (pss_cons (ps_set (i := 2) sc_greatest_divisor.nd rfl (.inl rfl) (pv 3)) (pss_one (ps_set (i := 3) sc_greatest_divisor.nd rfl (.inl rfl) (pv 4)))))) (pss_one (ps_ret (pv 2)))))), fun Q q => ?_⟩
  refine s_set (y_abs (ya_cons (y_val rfl) ya_nil)) fun u1 H1 s1 p1 => s_set (y_abs (ya_cons (y_val rfl) ya_nil)) fun u2 H2 s2 p2 => s_seq ?_
  refine s_while (fun m σ' H' => ∃ (x y : Int) (z : Option V), σ' = [some (.int a.1), some (.int a.2), some (.int x), some (.int y), z] ∧ 0 ≤ x ∧ 0 ≤ y ∧ y.toNat = m ∧ Int.gcd x y = Int.gcd a.1 a.2 ∧ Same H H') ?_ ?_
  · refine ⟨_, _, _, none, by rw [p1, p2]; rfl, ?_, ?_, rfl, ?_, s1.trans s2⟩
    · split <;> omega
    · split <;> omega
    · unfold Int.gcd
      congr 1 <;> (split <;> omega)
  · rintro m σ' H' ⟨x, y, z, e, hx, hy, hm, hg, s'⟩
    subst e
    refine ⟨_, yt_test (y_I0 (y_val rfl) y_c), fun h H3 s3 => ?_, fun h H3 s3 => ?_⟩
    · rw [decide_eq_true_eq] at h
      refine s_set (y_I (y_val rfl) (y_val rfl) (by omega)) fun u3 H4 s4 p3 => ?_
      cases p3
      refine s_set (y_val rfl) fun u4 H5 s5 p4 => s_set1 (y_val rfl) fun u5 H6 s6 p5 => ?_
      refine ⟨_, ?_, y, x.fmod y, _, by rw [p4, p5]; rfl, hy, ?_, rfl, ?_, ((((s'.trans s3).trans s4).trans s5).trans s6)⟩
      · rw [Int.fmod_eq_emod_of_nonneg _ hy]
        have := Int.emod_lt_of_pos x (by omega : 0 < y)
        have := Int.emod_nonneg x (by omega : y ≠ 0)
        omega
      · rw [Int.fmod_eq_emod_of_nonneg _ hy]
        exact Int.emod_nonneg x (by omega : y ≠ 0)
      · rw [Int.fmod_eq_emod_of_nonneg _ hy, ← hg, Int.gcd_comm x y]
        rw [Int.gcd_comm y (x % y), Int.gcd_comm y x]
        show Nat.gcd (x % y).natAbs y.natAbs = Nat.gcd x.natAbs y.natAbs
        have e1 : (x % y).natAbs = x.natAbs % y.natAbs := by
          have := Int.emod_nonneg x (by omega : y ≠ 0)
          have := Int.natCast_emod x.natAbs y.natAbs
          have e2 : ((x.natAbs : Nat) : Int) = x := by omega
          have e3 : ((y.natAbs : Nat) : Int) = y := by omega
          rw [e2, e3] at this
          omega
        rw [e1, ← Nat.gcd_rec, Nat.gcd_comm]
    · have hy0 : y = 0 := by
        have : ¬ (y > 0) := by simpa using h
        omega
      refine s_ret (y_val rfl) fun u H4 s4 p => q u H4 ((s'.trans s3).trans s4) ?_
      rw [p]
      show V.int _ = V.int _
      congr 1
      rw [← hg, hy0, Int.gcd_zero_right]
      omega
abbrev SpLow : Sp := SpO (fun a => a.2 ≠ 0 ∧ a.2.natAbs < 2 ^ 9000) (fun (a : Int × Int) => AC (IsN a.1) (AC (IsN a.2) AN)) (fun a => IsIs (CB.lowest a.1 a.2))
theorem sc_lowest : FnScope ["numerator", "denominator", "divisor"] ["numerator", "denominator"] (defScope (top 21)) := ⟨rfl, rfl, rfl, by decide +kernel, rfl, by decide +kernel, by decide +kernel⟩
theorem d_lowest (T : Txt K mg CI CC CS CP) (D_greatest_divisor : Dk P w K mg base 1 "greatest_divisor" ["first", "second"] SpGcd) : Dk P w K mg base 2 "lowest" ["numerator", "denominator"] SpLow := by
  refine T.d_lowest.okO (N := ["numerator", "denominator", "divisor"]) sc_lowest (fun a vs H h => len2 h) ?_
  intro f cdv A outer s H vs E a hr ⟨h0, hb⟩ ⟨v, r, e1, hv, v2, r2, e2, hv2, e3⟩
  subst e1 e2 e3
  cases hv
  cases hv2
  refine ⟨_, (pss_cons (ps_set (i := 2) sc_lowest.nd rfl (.inl rfl) (D_greatest_divisor.call hr (by decide) (by rfl) (pa_cons (pv 0) (pa_cons (pv 1) pa_nil)))) (pss_one (ps_ret (pe_lst (pa_cons (pe_op op_fdivZ (pv 0) (pv 2)) (pa_cons (pe_op op_fdivZ (pv 1) (pv 2)) pa_nil)))))), fun Q q => ?_⟩
  have g0 : (Int.gcd a.1 a.2 : Int) ≠ 0 := by
    intro z
    have : Int.gcd a.1 a.2 = 0 := by omega
    exact h0 (Int.gcd_eq_zero_iff.mp this).2
  have gb : ((Int.gcd a.1 a.2 : Int)).natAbs < 2 ^ 9000 := Nat.lt_of_le_of_lt (by have := Int.gcd_le_natAbs_right a.1 h0; omega) hb
  refine s_set (y_call a trivial (ya_cons (y_val rfl) (ya_cons (y_val rfl) ya_nil))) fun u1 H1 s1 p1 => ?_
  cases p1
  exact s_retO (yo_list2 (y_fdiv (y_val rfl) (y_val rfl) g0 gb (by decide) (by decide)) (y_fdiv (y_val rfl) (y_val rfl) g0 gb (by decide) (by decide))) fun v H2 s2 p o => q v H2 (s1.trans s2) p (off_back s1 o)
abbrev SpLowP : Sp := SpF (fun a => a.getLastD 0 ≠ 0 ∧ BdL 9000 a ∧ a.length ≤ 1000) (fun (a : List Int) => AC (IsIs a) AN) (fun a => IsTs (CB.lowestPoint a))
theorem sc_lowest_point : FnScope ["numbers", "divisor", "number"] ["numbers"] (defScope (top 22)) := ⟨rfl, rfl, rfl, by decide +kernel, rfl, by decide +kernel, by decide +kernel⟩
theorem d_lowest_point (T : Txt K mg CI CC CS CP) (D_greatest_divisor : Dk P w K mg base 1 "greatest_divisor" ["first", "second"] SpGcd) : Dk P w K mg base 2 "lowest_point" ["numbers"] SpLowP := by
  refine T.d_lowest_point.ok (N := ["numbers", "divisor", "number"]) sc_lowest_point (fun a vs H h => len1 h) ?_
  intro f cdv A outer s H vs E a hr ⟨h0, hb, hn⟩ ⟨v, r, e1, hv, e2⟩
  subst e1 e2
  refine ⟨_, (pss_cons (ps_set (i := 1) sc_lowest_point.nd rfl (.inr rfl) pe_int) (pss_cons (ps_for PassesOwn.never rfl (pi_list (pv 0)) (pg_name (i := 2) sc_lowest_point.nd rfl (.inl rfl)) (pss_one (ps_set (i := 1) sc_lowest_point.nd rfl (.inr rfl) (D_greatest_divisor.call hr (by decide) (by rfl) (pa_cons (pv 1) (pa_cons (pv 2) pa_nil)))))) (pss_cons (ps_if (pt_cmpR op_lt (pe_ix ix_list (pv 0) (pe_un un_neg pe_int) (fun _ _ => rfl)) pe_int (nomark _)) (pss_one (ps_set (i := 1) sc_lowest_point.nd rfl (.inr rfl) (pe_un un_neg (pv 1)))) pss_nil) (pss_one (ps_ret (pe_callTy call_tuple_of (by rfl) T.b_tuple (by decide +kernel) (pa_cons (pe_lc (own := [("number", 2)]) (g := (gName 2)) (tt := tYes) rfl sc_lowest_point.nd (pi_list (pv 0)) (blkOk_by (own := [("number", 2)]) (N := ["numbers", "divisor", "number"]) (sc := defScope (top 22)) (by decide +kernel)) (fun _ _ _ _ _ => (pg_name (i := 2) sc_lowest_point.nd rfl (.inl rfl))) (fun _ _ _ _ _ => pts_nil) (fun _ _ _ _ _ => (pe_op op_fdivZ (pv 2) (pv 1)))) pa_nil))))))), fun Q q => ?_⟩
  have ane : a ≠ [] := by
    intro z
    rw [z] at h0
    exact h0 rfl
  refine s_set y_c fun u1 H1 s1 p1 => s_seq ?_
  subst p1
  refine s_for (yi_list (y_var rfl (Mono.mono s1 hv))) (fun k σ' H' => ∃ z, σ' = [some v, some (.int (CB.gcdl (a.take k))), z]) (fun H2 s2 => ⟨none, rfl⟩) ?_ ?_
  · rintro k hk H2 s2 σ' H3 s3 ⟨z, rfl⟩ x H4 s4 ⟨n, hn, hx⟩
    refine s_set1 (y_call (_, n) trivial (ya_cons (y_val rfl) (ya_cons (y_var rfl hx) ya_nil))) fun u5 H5 s5 p5 => ⟨⟨some x, ?_⟩, (s3.trans s4).trans s5⟩
    rw [p5, take_snoc hn]
    unfold CB.gcdl
    rw [List.foldl_append]
    rfl
  · rintro σ' H2 s2 ⟨z, rfl⟩
    rw [List.take_of_length_le (Nat.le_refl _)]
    have hv2 : IsIs a v H2 := Mono.mono (s1.trans s2) hv
    have s12 := s1.trans s2
    have d0 := CB.dsg_ne h0
    have db : (CB.dsg a).natAbs < 2 ^ 9000 := by
      have h1 : a.getLastD 0 ∈ a := by
        rw [List.getLastD_eq_getLast?, List.getLast?_eq_some_getLast ane]
        exact List.getLast_mem ane
      exact Nat.lt_of_le_of_lt (Nat.le_of_dvd (by omega) (Int.natAbs_dvd_natAbs.mpr (CB.dsg_dvd h1))) (hb _ h1)
    dsimp only
    refine s_if (yt_test (y_I0 (y_ixI (y_var rfl hv2) (y_un y_c) (atI_neg1 ane)) y_c)) (fun h H3 s3 => s_set1 (y_un (y_val rfl)) fun u4 H4 s4 p4 => ?_) (fun h H3 s3 => ?_)
    · have e : -CB.gcdl a = CB.dsg a := by
        rw [decide_eq_true_eq] at h
        unfold CB.dsg
        rw [if_pos h]
      rw [e] at p4
      cases p4
      refine s_ret (y_tuple (ya_cons (y_map (T := RN) (f := fun (n : Int) => n.fdiv (CB.dsg a)) (by omega) (y_var rfl (Mono.mono (s3.trans s4) hv2)) (fun _ => rfl) fun n hn x H3 s3 hx => yo_N (y_fdiv (y_var rfl hx) (y_val rfl) d0 db (by decide) (by decide))) ya_nil)) fun u5 H5 s5 p5 => q u5 H5 (((s12.trans s3).trans s4).trans s5) p5
    · have e : CB.gcdl a = CB.dsg a := by
        have : ¬ (a.getLastD 0 < 0) := by simpa using h
        unfold CB.dsg
        rw [if_neg this]
      rw [e]
      refine s_ret (y_tuple (ya_cons (y_map (T := RN) (f := fun (n : Int) => n.fdiv (CB.dsg a)) (by omega) (y_var rfl (Mono.mono s3 hv2)) (fun _ => rfl) fun n hn x H3 s3 hx => yo_N (y_fdiv (y_var rfl hx) (y_val rfl) d0 db (by decide) (by decide))) ya_nil)) fun u5 H5 s5 p5 => q u5 H5 ((s12.trans s3).trans s5) p5
end
end WK

/- WkF3 -/
/-! The defs: points, the rest. -/
namespace WK
open PySem PySem.Spec PyProof.Rows L2
section
variable {σ : L2.St} {H : Hp} {te ta tb tc tl : TE} {P P1 P2 : V → Hp → Prop} {A : List V → Hp → Prop} {K : PySem.W.Frag} {D : Ends} {u t : TS}
/-- x = [] -/
theorem s_new {i : Nat} (k : ∀ d, H d = none → u D (σ.set i (some (.ref d))) (upd H d (.lst []))) : tSeq (tAsg (tLst tNil) (gName i)) u D σ H := ⟨by decide, fun p hp => k p hp⟩
/-- a walk over a tuple of whole numbers -/
theorem s_forT {tb : TS} {g : TG} {ns : List Int} (h : Y tl σ H (IsTs ns)) (k : ∀ p H2, Same H H2 → H2 p = some (.tup (ns.map V.int)) → ∃ (Pv : Nat → L2.St → Hp → Prop), Pv 0 σ H2 ∧ (∀ i σ' H', Pv i σ' H' → H' p = some (.tup (ns.map V.int))) ∧
      (∀ i n σ' H', ns[i]? = some n → Pv i σ' H' → g (.int n) σ' H' fun σ2 H3 => tb { D with nx := Pv (i + 1), ct := Pv (i + 1), bk := D.nx } σ2 H3) ∧ ∀ σ' H', Pv ns.length σ' H' → D.nx σ' H') : tFor (iTup K tl) g tb D σ H := by
  refine h H (Same.refl _) _ fun v H2 e2 ⟨p, hv, hp⟩ => ?_
  obtain ⟨Pv, h2, h3, h4, h5⟩ := k p H2 e2 hp
  refine ⟨p, hv, ⟨_, SqT.of hp⟩, for_tup (xs := ns.map V.int) Pv h2 (fun i σ' H' _ hq => SqT.of (h3 _ _ _ hq)) (fun i x σ' H' hx hq => ?_) (by rw [List.length_map]; exact h5)⟩
  rw [List.getElem?_map] at hx
  cases e : ns[i]? with
  | none =>
    rw [e] at hx
    cases hx
  | some n =>
    rw [e] at hx
    cases hx
    exact h4 i n σ' H' e hq
end
theorem prodL_snoc (l : List Int) (d : Int) : CB.prodL (l ++ [d]) = CB.prodL l * d := by
  unfold CB.prodL
  rw [List.foldl_append]
  rfl
theorem prodL_bd {l : List Int} (h : BdL 32 l) : ∀ k, (CB.prodL (l.take k)).natAbs < 2 ^ (32 * k + 1)
  | 0 => by
    rw [List.take_zero]
    show (1 : Int).natAbs < _
    decide
  | k + 1 => by
    have ih := prodL_bd h k
    cases e : l[k]? with
    | none =>
      have h1 : l.length ≤ k := List.getElem?_eq_none_iff.mp e
      rw [List.take_of_length_le (by omega)]
      rw [List.take_of_length_le h1] at ih
      exact bd_up ih (by omega)
    | some d =>
      rw [take_snoc e, prodL_snoc]
      have := bd_mul ih (h.at e)
      exact bd_up this (by omega)
theorem prodL_bd6 {l : List Int} (h : BdL 32 l) (hl : l.length ≤ 10) (k : Nat) : (CB.prodL (l.take k)).natAbs < 2 ^ 400 := by
  have h1 := prodL_bd h (min k 10)
  have e : l.take (min k 10) = l.take k := by
    rcases Nat.le_total k 10 with c | c
    · rw [Nat.min_eq_left c]
    · rw [Nat.min_eq_right c, List.take_of_length_le (by omega), List.take_of_length_le (by omega)]
  rw [e] at h1
  exact bd_up h1 (by omega)
theorem prodL_pos {l : List Int} (h : ∀ d ∈ l, 1 ≤ d) : 0 < CB.prodL l := by
  have key : ∀ (l : List Int) (c : Int), 0 < c → (∀ d ∈ l, 1 ≤ d) → 0 < l.foldl (fun c d => c * d) c := by
    intro l
    induction l with
    | nil => intro c hc _; exact hc
    | cons d l ih =>
      intro c hc hd
      rw [List.foldl_cons]
      refine ih _ (Int.mul_pos hc ?_) fun x hx => hd x (List.mem_cons_of_mem _ hx)
      have := hd d (List.mem_cons_self ..)
      omega
  exact key l 1 (by decide) h
theorem pointOf_PtB {nums dens : List Int} {n : Nat} (h1 : nums.length = n) (h2 : dens.length = n) (h3 : n ≤ 10) (h4 : BdL 32 nums) (h5 : BdL 32 dens) (h6 : ∀ d ∈ dens, 1 ≤ d) : PtB n (CB.pointOf nums dens) := by
  have e : dens.take 10 = dens := List.take_of_length_le (by omega)
  have hb := prodL_bd6 h5 (by omega) 10
  rw [e] at hb
  unfold CB.pointOf
  refine ⟨by rw [List.length_append, List.length_zipWith, h1, h2]; simp, ?_, ?_⟩
  · refine BdL.app (fun x hx => ?_) fun x hx => ?_
    · obtain ⟨u, v, hu, hv, e⟩ := mem_zipWith hx
      rw [e]
      exact bd_up (bd_mul (h4 u hu) (Nat.lt_of_le_of_lt (Int.natAbs_fdiv_le_natAbs _ _) hb)) (by decide)
    · rw [List.mem_singleton] at hx
      rw [hx]
      exact bd_up hb (by decide)
  · rw [List.getLastD_concat]
    exact prodL_pos h6
theorem before_drop (dp dq : Int) : ∀ (p q : List Int) (k : Nat) (a b : Int), p[k]? = some a → q[k]? = some b → CB.before dp dq (p.drop k) (q.drop k) = if a * dq ≠ b * dp then decide (a * dq < b * dp) else CB.before dp dq (p.drop (k + 1)) (q.drop (k + 1)) := by
  intro p q k a b ha hb
  have h1 : p.drop k = a :: p.drop (k + 1) := by
    have := (List.getElem?_eq_some_iff.mp ha).1
    rw [List.drop_eq_getElem_cons this, (List.getElem?_eq_some_iff.mp ha).2]
  have h2 : q.drop k = b :: q.drop (k + 1) := by
    have := (List.getElem?_eq_some_iff.mp hb).1
    rw [List.drop_eq_getElem_cons this, (List.getElem?_eq_some_iff.mp hb).2]
  rw [h1, h2]
  rfl
section
variable {P : Program} {w : World} {K : PySem.W.Frag} {mg : Str → Option Value} {base : Heap} {CI CC CS CP : Addr}

abbrev SpPointOf : Sp := SpF (fun a => a.1.length = a.2.length ∧ a.1.length ≤ 10 ∧ BdL 32 a.1 ∧ BdL 32 a.2 ∧ ∀ d ∈ a.2, 1 ≤ d) (fun (a : List Int × List Int) => AC (IsIs a.1) (AC (IsIs a.2) AN)) (fun a => IsTs (CB.pointOf a.1 a.2))
theorem sc_point_of : FnScope ["nums", "dens", "common", "den", "scaled", "num"] ["nums", "dens"] (defScope (top 23)) := ⟨rfl, rfl, rfl, by decide +kernel, rfl, by decide +kernel, by decide +kernel⟩
theorem d_point_of (T : Txt K mg CI CC CS CP) : Dk P w K mg base 1 "point_of" ["nums", "dens"] SpPointOf := by
  refine T.d_point_of.ok (N := ["nums", "dens", "common", "den", "scaled", "num"]) sc_point_of (fun a vs H h => len2 h) ?_
  intro f cdv A outer s H vs E a hr ⟨hl, hn, b1, b2, h1⟩ ⟨v, r, e1, hv, v2, r2, e2, hv2, e3⟩
  subst e1 e2 e3
  refine ⟨_, (pss_cons (ps_set (i := 2) sc_point_of.nd rfl (.inr rfl) pe_int) (pss_cons (ps_for PassesOwn.never rfl (pi_list (pv 1)) (pg_name (i := 3) sc_point_of.nd rfl (.inl rfl)) (pss_one (ps_set (i := 2) sc_point_of.nd rfl (.inr rfl) (pe_op op_mulW (pv 2) (pv 3))))) (pss_cons (ps_setLc (i := 4) (own := [("num", 5), ("den", 3)]) (g := (gTup K 2 (gCons (gName 5) (gCons (gName 3) gNil)))) (tt := tYes) rfl sc_point_of.nd rfl rfl (sw_true rfl rfl rfl (by decide +kernel)) (pi_zip (by rfl) T.b_zip (pa_cons (pv 0) (pa_cons (pv 1) pa_nil))) (blkOk_by (own := [("num", 5), ("den", 3)]) (N := ["nums", "dens", "common", "den", "scaled", "num"]) (sc := defScope (top 23)) (by decide +kernel)) (fun _ _ _ _ _ => (pg_tup (by rfl) (pgs_cons (pg_name (i := 5) sc_point_of.nd rfl (.inl rfl)) (pgs_cons (pg_name (i := 3) sc_point_of.nd rfl (.inl rfl)) pgs_nil)))) (fun _ _ _ _ _ => pts_nil) (fun _ _ _ _ _ => (pe_op op_mulW (pv 5) (pe_op op_fdivZ (pv 2) (pv 3))))) (pss_one (ps_ret (pe_callTy call_tuple_of (by rfl) T.b_tuple (by decide +kernel) (pa_cons (pe_op op_cat (pv 4) (pe_lst (pa_cons (pv 2) pa_nil))) pa_nil))))))), fun Q q => ?_⟩
  refine s_set y_c fun u1 H1 s1 p1 => s_seq ?_
  subst p1
  refine s_for (yi_list (y_var rfl (Mono.mono s1 hv2))) (fun k σ' H' => ∃ z, σ' = [some v, some v2, some (.int (CB.prodL (a.2.take k))), z, none, none]) (fun H2 s2 => ⟨none, rfl⟩) ?_ ?_
  · rintro k hk H2 s2 σ' H3 s3 ⟨z, rfl⟩ x H4 s4 ⟨n, hn', hx⟩
    refine s_set1 (y_mul (y_val rfl) (y_var rfl hx) (prodL_bd6 b2 (by omega) k) (b2.at hn') (by decide) (by decide) (by decide)) fun u5 H5 s5 p5 => ⟨⟨some x, ?_⟩, (s3.trans s4).trans s5⟩
    rw [p5, take_snoc hn', prodL_snoc]
    rfl
  · rintro σ' H2 s2 ⟨z, rfl⟩
    rw [List.take_of_length_le (Nat.le_refl _)]
    dsimp only
    have hb := prodL_bd6 b2 (by omega) 10
    rw [List.take_of_length_le (by omega : a.2.length ≤ 10)] at hb
    refine s_set (yo_zip (K := K) (T := RN) (f := fun (x y : Int) => x * (CB.prodL a.2).fdiv y) (by omega) hl (yi_zip hl (ya_cons (y_var rfl (Mono.mono (s1.trans s2) hv)) (ya_cons (y_var rfl (Mono.mono (s1.trans s2) hv2)) ya_nil))) (fun _ _ => rfl) fun k x y hx hy _ _ H3 _ hvx hvy => yo_N (y_mul (y_var rfl hvx) (y_fdiv (y_val rfl) (y_var rfl hvy) (by have := h1 y (List.mem_of_getElem? hy); omega) (b2.at hy) (by decide) (by decide)) (b1.at hx) (Nat.lt_of_le_of_lt (Int.natAbs_fdiv_le_natAbs _ _) hb) (by decide) (by decide) (by decide))).y fun u3 H3 s3 p3 => ?_
    refine s_ret (y_tuple (ya_cons (yo_cat (y_var rfl p3) (y_list1 (y_val rfl)) (by simp; omega)).y ya_nil)) fun u4 H4 s4 p4 => q u4 H4 (((s1.trans s2).trans s3).trans s4) p4
abbrev SpFrac : Sp := SpF (fun a => a.getLastD 0 ≠ 0 ∧ BdL 9000 a ∧ a.length ≤ 1000) (fun (a : List Int) => AC (IsTs a) AN) (fun a => IsIs (CB.fractionsOf a))
theorem sc_fractions_of : FnScope ["point", "shown", "num"] ["point"] (defScope (top 24)) := ⟨rfl, rfl, rfl, by decide +kernel, rfl, by decide +kernel, by decide +kernel⟩
theorem d_fractions_of (T : Txt K mg CI CC CS CP) (D_lowest : Dk P w K mg base 2 "lowest" ["numerator", "denominator"] SpLow) : Dk P w K mg base 3 "fractions_of" ["point"] SpFrac := by
  refine T.d_fractions_of.ok (N := ["point", "shown", "num"]) sc_fractions_of (fun a vs H h => len1 h) ?_
  intro f cdv A outer s H vs E a hr ⟨h0, hb, hn⟩ ⟨v, r, e1, hv, e2⟩
  subst e1 e2
  have ane : a ≠ [] := by
    intro z
    rw [z] at h0
    exact h0 rfl
  have hlen : ∀ k, ((a.dropLast.take k).flatMap fun x => CB.lowest x (a.getLastD 0)).length ≤ 2 * k := by
    intro k
    have : ∀ l : List Int, (l.flatMap fun x => CB.lowest x (a.getLastD 0)).length = 2 * l.length := by
      intro l
      induction l with
      | nil => rfl
      | cons x l ih =>
        rw [List.flatMap_cons, List.length_append, ih, List.length_cons]
        show 2 + _ = _
        omega
    rw [this, List.length_take]
    omega
  refine ⟨_, (pss_cons (ps_set (i := 1) sc_fractions_of.nd rfl (.inl rfl) (pe_lst pa_nil)) (pss_cons (ps_for PassesOwn.never rfl (pi_tup (pe_slice sl_tup (pv 0) po_none (po_some (pe_un un_neg pe_int)))) (pg_name (i := 2) sc_fractions_of.nd rfl (.inl rfl)) (pss_one (ps_expr (pe_bm PySem.F.plainAttrs_list PySem.F.slot_list_extend PySem.F.type_list_extend mt_extend (pv 1) (pa_cons (D_lowest.call hr (by decide) (by rfl) (pa_cons (pv 2) (pa_cons (pe_ix ix_tup (pv 0) (pe_un un_neg pe_int) (fun _ _ => rfl)) pa_nil))) pa_nil))))) (pss_one (ps_ret (pv 1))))), fun Q q => ?_⟩
  refine s_new fun d hd => ?_
  refine s_seq ?_
  have s0 : Same H (upd H d (.lst [])) := Same.new hd
  refine s_forT (y_initT (y_var rfl (Mono.mono s0 hv)) (yp_some (y_un y_c)) ane) fun p H2 s2 hp => ⟨fun k σ' H' => ∃ z, σ' = [some v, some (.ref d), z] ∧ H' d = some (.lst (((a.dropLast.take k).flatMap fun x => CB.lowest x (a.getLastD 0)).map V.int)) ∧ H' p = some (.tup (a.dropLast.map V.int)) ∧ Same H H', ⟨none, rfl, s2 _ _ upd_same, hp, s0.trans s2⟩, fun i σ' H' ⟨z, h1, h2, h3, h4⟩ => h3, ?_, ?_⟩
  · rintro i n σ' H' hi ⟨z, rfl, h2, h3, h4⟩
    have hi1 := (List.getElem?_eq_some_iff.mp hi).1
    rw [List.length_dropLast] at hi1
    refine s_extend (y_val rfl) h2 ?_ (ya_cons (YO.y (y_callO (n, a.getLastD 0) ⟨h0, hb.last⟩ (ya_cons (y_val rfl) (ya_cons (y_ixT (y_var rfl (Mono.mono h4 hv)) (y_un y_c) (atI_neg1 ane)) ya_nil)))) ya_nil) fun H3 s3 h5 => ⟨some (.int n), rfl, ?_, ?_, ?_⟩
    · rw [List.length_map]
      have := hlen i
      show _ + 2 ≤ _
      omega
    · rw [upd_same, take_snoc hi, List.flatMap_append, List.map_append, List.flatMap_singleton]
    · rw [upd_ne (ne_of (s3 _ _ h3) (s3 _ _ h2) (by intro z; cases z))]
      exact s3 _ _ h3
    · exact Same.mut (h4.trans s3) hd
  · rintro σ' H' ⟨z, rfl, h2, h3, h4⟩
    rw [List.take_of_length_le (Nat.le_refl _)] at h2
    dsimp only
    exact s_ret (y_var rfl (isIs_mk h2)) fun u5 H5 s5 p5 => q u5 H5 (h4.trans s5) p5
abbrev SpVal : Sp := SpF (fun a => a.1.length + 1 = a.2.length ∧ a.1.length ≤ 900 ∧ BdL 6100 a.1 ∧ BdL 6100 a.2 ∧ a.2.getLastD 0 ≠ 0) (fun (a : List Int × List Int) => AC (IsIs a.1) (AC (IsTs a.2) AN)) (fun a => IsIs (CB.valueOf a.1 a.2))
theorem init_len {α : Type} {l : List α} {n : Nat} (h : n + 1 = l.length) : n = l.dropLast.length := by
  rw [List.length_dropLast]
  omega
theorem ne_of_len {α : Type} {l : List α} {n : Nat} (h : n + 1 = l.length) : l ≠ [] := by
  intro e
  rw [e] at h
  cases h
theorem sc_value_of : FnScope ["goal", "point"] ["goal", "point"] (defScope (top 25)) := ⟨rfl, rfl, rfl, by decide +kernel, rfl, by decide +kernel, by decide +kernel⟩
theorem d_value_of (T : Txt K mg CI CC CS CP) (D_dot : Dk P w K mg base 1 "dot" ["row", "point"] SpDot) (D_lowest : Dk P w K mg base 2 "lowest" ["numerator", "denominator"] SpLow) : Dk P w K mg base 3 "value_of" ["goal", "point"] SpVal := by
  refine T.d_value_of.ok (N := ["goal", "point"]) sc_value_of (fun a vs H h => len2 h) ?_
  intro f cdv A outer s H vs E a hr ⟨hl, hn, b1, b2, h0⟩ ⟨v, r, e1, hv, v2, r2, e2, hv2, e3⟩
  subst e1 e2 e3
  have ane := ne_of_len hl
  refine ⟨_, (pss_one (ps_ret (D_lowest.call hr (by decide) (by rfl) (pa_cons (D_dot.call hr (by decide) (by rfl) (pa_cons (pv 0) (pa_cons (pe_slice sl_tup (pv 1) po_none (po_some (pe_un un_neg pe_int))) pa_nil))) (pa_cons (pe_ix ix_tup (pv 1) (pe_un un_neg pe_int) (fun _ _ => rfl)) pa_nil))))), fun Q q => ?_⟩
  refine s_ret (YO.y (y_callO (CB.idot a.1 a.2.dropLast, a.2.getLastD 0) ⟨h0, bd_up b2.last (by decide)⟩ (ya_cons (y_call (a.1, a.2.dropLast) ⟨init_len hl, Nat.le_trans hn (by decide), b1, b2.init⟩ (ya_cons (y_var rfl hv) (ya_cons (y_initT (y_var rfl hv2) (yp_some (y_un y_c)) ane) ya_nil))) (ya_cons (y_ixT (y_var rfl hv2) (y_un y_c) (atI_neg1 ane)) ya_nil)))) q
/-- two points and a goal -/
def ExOk (a : List Int × List Int × List Int) : Prop := a.1.length = a.2.1.length ∧ a.2.2.length + 1 = a.1.length ∧ a.2.2.length ≤ 900 ∧ BdL 3000 a.1 ∧ BdL 3000 a.2.1 ∧ BdL 3000 a.2.2
abbrev SpExc : Sp := SpF ExOk (fun (a : List Int × List Int × List Int) => AC (IsTs a.1) (AC (IsTs a.2.1) (AC (IsIs a.2.2) AN))) (fun a => IsB (CB.exceeds a.1 a.2.1 a.2.2))
theorem sc_exceeds : FnScope ["point", "other", "goal"] ["point", "other", "goal"] (defScope (top 26)) := ⟨rfl, rfl, rfl, by decide +kernel, rfl, by decide +kernel, by decide +kernel⟩
theorem d_exceeds (T : Txt K mg CI CC CS CP) (D_dot : Dk P w K mg base 1 "dot" ["row", "point"] SpDot) : Dk P w K mg base 2 "exceeds" ["point", "other", "goal"] SpExc := by
  refine T.d_exceeds.ok (N := ["point", "other", "goal"]) sc_exceeds (fun a vs H h => len3 h) ?_
  intro f cdv A outer s H vs E a hr ⟨hl, hl2, hn, b1, b2, b3⟩ ⟨v, r, e1, hv, v2, r2, e2, hv2, v3, r3, e3, hv3, e4⟩
  subst e1 e2 e3 e4
  have n1 := ne_of_len hl2
  have n2 := ne_of_len (hl2.trans hl)
  refine ⟨_, (pss_one (ps_ret (pe_cmpR op_gt (pe_op op_mulW (D_dot.call hr (by decide) (by rfl) (pa_cons (pv 2) (pa_cons (pe_slice sl_tup (pv 0) po_none (po_some (pe_un un_neg pe_int))) pa_nil))) (pe_ix ix_tup (pv 1) (pe_un un_neg pe_int) (fun _ _ => rfl))) (pe_op op_mulW (D_dot.call hr (by decide) (by rfl) (pa_cons (pv 2) (pa_cons (pe_slice sl_tup (pv 1) po_none (po_some (pe_un un_neg pe_int))) pa_nil))) (pe_ix ix_tup (pv 0) (pe_un un_neg pe_int) (fun _ _ => rfl))) (nomark _)))), fun Q q => ?_⟩
  refine s_ret (y_I0 (y_mul (y_call (a.2.2, a.1.dropLast) ⟨init_len hl2, Nat.le_trans hn (by decide), b3.mono (by decide), b1.init.mono (by decide)⟩ (ya_cons (y_var rfl hv3) (ya_cons (y_initT (y_var rfl hv) (yp_some (y_un y_c)) n1) ya_nil))) (y_ixT (y_var rfl hv2) (y_un y_c) (atI_neg1 n2)) (idot_bd b3 b1.init (Nat.le_trans hn (by decide))) b2.last (by decide) (by decide) (by decide))
    (y_mul (y_call (a.2.2, a.2.1.dropLast) ⟨init_len (hl2.trans hl), Nat.le_trans hn (by decide), b3.mono (by decide), b2.init.mono (by decide)⟩ (ya_cons (y_var rfl hv3) (ya_cons (y_initT (y_var rfl hv2) (yp_some (y_un y_c)) n2) ya_nil))) (y_ixT (y_var rfl hv) (y_un y_c) (atI_neg1 n1)) (idot_bd b3 b2.init (Nat.le_trans hn (by decide))) b1.last (by decide) (by decide) (by decide))) q
abbrev SpBef : Sp := SpF (fun a => a.1.length = a.2.length ∧ 0 < a.1.length ∧ BdL 3000 a.1 ∧ BdL 3000 a.2) (fun (a : List Int × List Int) => AC (IsTs a.1) (AC (IsTs a.2) AN)) (fun a => IsB (CB.comesBefore a.1 a.2))
theorem sc_comes_before : FnScope ["point", "other", "num", "other_num", "left", "right"] ["point", "other"] (defScope (top 27)) := ⟨rfl, rfl, rfl, by decide +kernel, rfl, by decide +kernel, by decide +kernel⟩
theorem d_comes_before (T : Txt K mg CI CC CS CP) : Dk P w K mg base 1 "comes_before" ["point", "other"] SpBef := by
  refine T.d_comes_before.ok (N := ["point", "other", "num", "other_num", "left", "right"]) sc_comes_before (fun a vs H h => len2 h) ?_
  intro f cdv A outer s H vs E a hr ⟨hl, h0, b1, b2⟩ ⟨v, r, e1, hv, v2, r2, e2, hv2, e3⟩
  subst e1 e2 e3
  have n1 : a.1 ≠ [] := List.length_pos_iff.mp h0
  have n2 : a.2 ≠ [] := List.length_pos_iff.mp (by omega)
  have hl2 : a.1.dropLast.length = a.2.dropLast.length := by rw [List.length_dropLast, List.length_dropLast, hl]
  refine ⟨_, (pss_cons (ps_for PassesOwn.never rfl (RZ.pi_zipA (by rfl) T.b_zip (pa_cons (pe_slice sl_tup (pv 0) po_none (po_some (pe_un un_neg pe_int))) (pa_cons (pe_slice sl_tup (pv 1) po_none (po_some (pe_un un_neg pe_int))) pa_nil))) (pg_tup (by rfl) (pgs_cons (pg_name (i := 2) sc_comes_before.nd rfl (.inl rfl)) (pgs_cons (pg_name (i := 3) sc_comes_before.nd rfl (.inl rfl)) pgs_nil))) (pss_cons (ps_set (i := 4) sc_comes_before.nd rfl (.inl rfl) (pe_op op_mulW (pv 2) (pe_ix ix_tup (pv 1) (pe_un un_neg pe_int) (fun _ _ => rfl)))) (pss_cons (ps_set (i := 5) sc_comes_before.nd rfl (.inl rfl) (pe_op op_mulW (pv 3) (pe_ix ix_tup (pv 0) (pe_un un_neg pe_int) (fun _ _ => rfl)))) (pss_one (ps_if (pt_cmpR op_ne (pv 4) (pv 5) (nomark _)) (pss_one (ps_ret (pe_cmpR op_lt (pv 4) (pv 5) (nomark _)))) pss_nil))))) (pss_one (ps_ret pe_bl))), fun Q q => ?_⟩
  refine s_seq ?_
  refine s_for (yi_zipT hl2 (ya_cons (y_initT (y_var rfl hv) (yp_some (y_un y_c)) n1) (ya_cons (y_initT (y_var rfl hv2) (yp_some (y_un y_c)) n2) ya_nil))) (fun k σ' H' => (∃ z1 z2 z3 z4, σ' = [some v, some v2, z1, z2, z3, z4]) ∧ CB.comesBefore a.1 a.2 = CB.before (a.1.getLastD 0) (a.2.getLastD 0) (a.1.dropLast.drop k) (a.2.dropLast.drop k)) (fun H1 s1 => ⟨⟨none, none, none, none, rfl⟩, rfl⟩) ?_ ?_
  · rintro k hk H1 s1 σ' H2 s2 ⟨⟨z1, z2, z3, z4, rfl⟩, hb⟩ x H3 s3 ⟨P, x1, x2, n, m, e1, e2, h1, h2, h3, h4⟩
    cases h2
    cases h4
    refine ⟨P, [.int n, .int m], e1, SqT.of e2, rfl, _, _, rfl, _, _, rfl, rfl, ?_⟩
    have hv3 : IsTs a.1 v H3 := Mono.mono ((s1.trans s2).trans s3) hv
    have hv4 : IsTs a.2 v2 H3 := Mono.mono ((s1.trans s2).trans s3) hv2
    refine s_set (y_mul (y_val rfl) (y_ixT (y_var rfl hv4) (y_un y_c) (atI_neg1 n2)) (b1.init.at h1) b2.last (by decide) (by decide) (by decide)) fun u1 H4 s4 p4 => s_set (y_mul (y_val rfl) (y_ixT (y_var rfl (Mono.mono s4 hv3)) (y_un y_c) (atI_neg1 n1)) (b2.init.at h3) b1.last (by decide) (by decide) (by decide)) fun u2 H5 s5 p5 => ?_
    cases p4
    cases p5
    have hb2 := hb.trans (before_drop _ _ _ _ k n m h1 h3)
    refine s_if1 (yt_test (y_neI (y_val rfl) (y_val rfl))) (fun h H6 s6 => s_ret (y_I0 (y_val rfl) (y_val rfl)) fun u7 H7 s7 p7 => q u7 H7 ((((((s1.trans s2).trans s3).trans s4).trans s5).trans s6).trans s7) ?_) fun h H6 s6 => ⟨⟨⟨_, _, _, _, rfl⟩, ?_⟩, (((s2.trans s3).trans s4).trans s5).trans s6⟩
    · have : n * a.2.getLastD 0 ≠ m * a.1.getLastD 0 := by simpa using h
      rw [p7]
      show V.bl _ = V.bl _
      rw [hb2, if_pos this]
    · have : ¬ (n * a.2.getLastD 0 ≠ m * a.1.getLastD 0) := by simpa using h
      rw [hb2, if_neg this]
  · rintro σ' H1 s1 ⟨⟨z1, z2, z3, z4, rfl⟩, hb⟩
    dsimp only
    refine s_ret y_c fun u7 H7 s7 p7 => q u7 H7 (s1.trans s7) ?_
    rw [p7]
    show V.bl _ = V.bl _
    rw [hb, List.drop_of_length_le (Nat.le_refl _)]
    rfl
end
end WK

/- WkF4 -/
/-! The defs: the first, the best; networks. -/
namespace WK
open PySem PySem.Spec PyProof.Rows L2
abbrev IsPs (ps : List (List Int)) : V → Hp → Prop := IsL IsTs ps
/-- so many points -/
def PtsB (n : Nat) (ps : List (List Int)) : Prop := ps.length ≤ 100000 ∧ ∀ p ∈ ps, PtB n p
theorem foldl_take_snoc {α β : Type} (f : β → α → β) (b : β) {l : List α} {k : Nat} {a : α} (h : l[k]? = some a) : (l.take (k + 1)).foldl f b = f ((l.take k).foldl f b) a := by
  rw [take_snoc h, List.foldl_append]
  rfl
theorem head_get {α : Type} {l : List α} {d : α} (h : l ≠ []) : l[0]? = some (l.getD 0 d) := by
  cases l with
  | nil => exact absurd rfl h
  | cons a l => rfl
theorem head_mem {α : Type} {l : List α} {d : α} (h : l ≠ []) : l.getD 0 d ∈ l := List.mem_of_getElem? (head_get (d := d) h)
theorem pick_in {α : Type} {f : α → α → α} (hf : ∀ a b, f a b = a ∨ f a b = b) {l : List α} {x : α} (hx : x ∈ l) (k : Nat) : (l.take k).foldl f x ∈ l := by
  rcases pick_mem hf (l.take k) x with e | e
  · rw [e]; exact hx
  · exact List.mem_of_mem_take e
section
variable {P : Program} {w : World} {K : PySem.W.Frag} {mg : Str → Option Value} {base : Heap} {CI CC CS CP : Addr}

abbrev SpFirst : Sp := SpF (fun a => a.2 ≠ [] ∧ PtsB a.1 a.2) (fun (a : Nat × List (List Int)) => AC (IsPs a.2) AN) (fun a => IsTs (CB.firstOf a.2))
theorem sc_first_of : FnScope ["points", "first", "point"] ["points"] (defScope (top 28)) := ⟨rfl, rfl, rfl, by decide +kernel, rfl, by decide +kernel, by decide +kernel⟩
theorem d_first_of (T : Txt K mg CI CC CS CP) (D_comes_before : Dk P w K mg base 1 "comes_before" ["point", "other"] SpBef) : Dk P w K mg base 2 "first_of" ["points"] SpFirst := by
  refine T.d_first_of.ok (N := ["points", "first", "point"]) sc_first_of (fun a vs H h => len1 h) ?_
  intro f cdv A outer s H vs E ⟨n, ps⟩ hr ⟨h0, hn, hp⟩ ⟨v, r, e1, hv, e2⟩
  subst e1 e2
  refine ⟨_, (pss_cons (ps_set (i := 1) sc_first_of.nd rfl (.inl rfl) (pe_ix ix_list (pv 0) pe_int (fun _ _ => rfl))) (pss_cons (ps_for PassesOwn.never rfl (pi_list (pv 0)) (pg_name (i := 2) sc_first_of.nd rfl (.inl rfl)) (pss_one (ps_if (pt_val (D_comes_before.call hr (by decide) (by rfl) (pa_cons (pv 2) (pa_cons (pv 1) pa_nil)))) (pss_one (ps_set (i := 1) sc_first_of.nd rfl (.inl rfl) (pv 2))) pss_nil))) (pss_one (ps_ret (pv 1))))), fun Q q => ?_⟩
  refine s_set (y_ixR (i := 0) (y_var rfl hv) y_c rfl (head_get (d := []) h0)) fun u1 H1 s1 p1 => s_seq ?_
  have hpick : ∀ a b : List Int, (if CB.comesBefore b a then b else a) = a ∨ (if CB.comesBefore b a then b else a) = b := fun a b => by
    by_cases c : CB.comesBefore b a = true
    · exact .inr (if_pos c)
    · exact .inl (if_neg c)
  refine s_for (yi_list (y_var rfl (Mono.mono s1 hv))) (fun k σ' H' => ∃ z y, σ' = [some v, some y, z] ∧ IsTs (CB.firstFrom (ps.getD 0 []) (ps.take k)) y H') (fun H2 s2 => ⟨none, u1, rfl, Mono.mono s2 p1⟩) ?_ ?_
  · rintro k hk H2 s2 σ' H3 s3 ⟨z, y, rfl, hy⟩ x H4 s4 ⟨p, hn', hx⟩
    have hm : CB.firstFrom (ps.getD 0 []) (ps.take k) ∈ ps := pick_in hpick (head_mem h0) k
    have B1 := hp p (List.mem_of_getElem? hn')
    have B2 := hp _ hm
    have hs : CB.firstFrom (ps.getD 0 []) (ps.take (k + 1)) = if CB.comesBefore p (CB.firstFrom (ps.getD 0 []) (ps.take k)) then p else CB.firstFrom (ps.getD 0 []) (ps.take k) := foldl_take_snoc _ _ hn'
    refine s_if1 (yt_B (y_call (p, CB.firstFrom (ps.getD 0 []) (ps.take k)) ⟨B1.1.trans B2.1.symm, by show 0 < p.length; rw [B1.1]; omega, B1.2.1, B2.2.1⟩ (ya_cons (y_var rfl hx) (ya_cons (y_var rfl (Mono.mono s4 hy)) ya_nil)))) (fun h H5 s5 => s_set1 (y_var rfl (Mono.mono s5 hx)) fun u6 H6 s6 p6 => ⟨⟨some x, u6, rfl, ?_⟩, ((s3.trans s4).trans s5).trans s6⟩) fun h H5 s5 => ⟨⟨some x, y, rfl, ?_⟩, (s3.trans s4).trans s5⟩
    · rw [hs, if_pos h]
      exact p6
    · rw [hs, if_neg (by rw [h]; decide)]
      exact Mono.mono (s4.trans s5) hy
  · rintro σ' H2 s2 ⟨z, y, rfl, hy⟩
    dsimp only
    rw [List.take_of_length_le (Nat.le_refl _)] at hy
    exact s_ret (y_var rfl hy) fun u3 H3 s3 p3 => q u3 H3 ((s1.trans s2).trans s3) p3
abbrev SpBest : Sp := SpF (fun a => a.2.1 ≠ [] ∧ PtsB a.1 a.2.1 ∧ a.2.2.length = a.1 ∧ a.1 ≤ 900 ∧ BdL 3000 a.2.2) (fun (a : Nat × List (List Int) × List Int) => AC (IsPs a.2.1) (AC (IsIs a.2.2) AN)) (fun a => IsTs (CB.bestOf a.2.1 a.2.2))
theorem sc_best_of : FnScope ["points", "goal", "top", "point"] ["points", "goal"] (defScope (top 29)) := ⟨rfl, rfl, rfl, by decide +kernel, rfl, by decide +kernel, by decide +kernel⟩
theorem d_best_of (T : Txt K mg CI CC CS CP) (D_exceeds : Dk P w K mg base 2 "exceeds" ["point", "other", "goal"] SpExc) (D_first_of : Dk P w K mg base 2 "first_of" ["points"] SpFirst) : Dk P w K mg base 3 "best_of" ["points", "goal"] SpBest := by
  refine T.d_best_of.ok (N := ["points", "goal", "top", "point"]) sc_best_of (fun a vs H h => len2 h) ?_
  intro f cdv A outer s H vs E ⟨n, ps, goal⟩ hr ⟨h0, ⟨hn, hp⟩, hg, hn9, bg⟩ ⟨v, r, e1, hv, v2, r2, e2, hv2, e3⟩
  subst e1 e2 e3
  dsimp only at h0 hn hp hg hn9 bg hv hv2
  refine ⟨_, (pss_cons (ps_set (i := 2) sc_best_of.nd rfl (.inr rfl) (pe_ix ix_list (pv 0) pe_int (fun _ _ => rfl))) (pss_cons (ps_for PassesOwn.never rfl (pi_list (pv 0)) (pg_name (i := 3) sc_best_of.nd rfl (.inl rfl)) (pss_one (ps_if (pt_val (D_exceeds.call hr (by decide) (by rfl) (pa_cons (pv 3) (pa_cons (pv 2) (pa_cons (pv 1) pa_nil))))) (pss_one (ps_set (i := 2) sc_best_of.nd rfl (.inr rfl) (pv 3))) pss_nil))) (pss_one (ps_ret (D_first_of.call hr (by decide) (by rfl) (pa_cons (pe_lc (own := [("point", 3)]) (g := (gName 3)) rfl sc_best_of.nd (pi_list (pv 0)) (blkOk_by (own := [("point", 3)]) (N := ["points", "goal", "top", "point"]) (sc := defScope (top 29)) (by decide +kernel)) (fun _ _ _ _ _ => (pg_name (i := 3) sc_best_of.nd rfl (.inl rfl))) (fun _ _ _ _ _ => (pts_one (pt_not (pt_val (D_exceeds.call hr (by decide) (by rfl) (pa_cons (pv 2) (pa_cons (pv 3) (pa_cons (pv 1) pa_nil)))))))) (fun _ _ _ _ _ => (pv 3))) pa_nil)))))), fun Q q => ?_⟩
  refine s_set (y_ixR (i := 0) (y_var rfl hv) y_c rfl (head_get (d := []) h0)) fun u1 H1 s1 p1 => s_seq ?_
  have hpick : ∀ a b : List Int, (if CB.exceeds b a goal then b else a) = a ∨ (if CB.exceeds b a goal then b else a) = b := fun a b => by
    by_cases c : CB.exceeds b a goal = true
    · exact .inr (if_pos c)
    · exact .inl (if_neg c)
  have top : ∀ k, (ps.take k).foldl (fun t p => if CB.exceeds p t goal then p else t) (ps.getD 0 []) ∈ ps := fun k => pick_in hpick (head_mem h0) k
  have ok : ∀ p q, p ∈ ps → q ∈ ps → ExOk (p, q, goal) := fun p q h1 h2 => by
    have B1 := hp p h1
    have B2 := hp q h2
    exact ⟨B1.1.trans B2.1.symm, by show goal.length + 1 = p.length; rw [B1.1, hg], by show goal.length ≤ 900; omega, B1.2.1, B2.2.1, bg⟩
  refine s_for (yi_list (y_var rfl (Mono.mono s1 hv))) (fun k σ' H' => ∃ z y, σ' = [some v, some v2, some y, z] ∧ IsTs ((ps.take k).foldl (fun t p => if CB.exceeds p t goal then p else t) (ps.getD 0 [])) y H') (fun H2 s2 => ⟨none, u1, rfl, Mono.mono s2 p1⟩) ?_ ?_
  · rintro k hk H2 s2 σ' H3 s3 ⟨z, y, rfl, hy⟩ x H4 s4 ⟨p, hn', hx⟩
    have hs : (ps.take (k + 1)).foldl (fun t p => if CB.exceeds p t goal then p else t) (ps.getD 0 []) = if CB.exceeds p ((ps.take k).foldl (fun t p => if CB.exceeds p t goal then p else t) (ps.getD 0 [])) goal then p else (ps.take k).foldl (fun t p => if CB.exceeds p t goal then p else t) (ps.getD 0 []) := foldl_take_snoc _ _ hn'
    refine s_if1 (yt_B (y_call (p, _, goal) (ok _ _ (List.mem_of_getElem? hn') (top k)) (ya_cons (y_var rfl hx) (ya_cons (y_var rfl (Mono.mono s4 hy)) (ya_cons (y_var rfl (Mono.mono (((s1.trans s2).trans s3).trans s4) hv2)) ya_nil))))) (fun h H5 s5 => s_set1 (y_var rfl (Mono.mono s5 hx)) fun u6 H6 s6 p6 => ⟨⟨some x, u6, rfl, ?_⟩, ((s3.trans s4).trans s5).trans s6⟩) fun h H5 s5 => ⟨⟨some x, y, rfl, ?_⟩, (s3.trans s4).trans s5⟩
    · rw [hs, if_pos h]
      exact p6
    · rw [hs, if_neg (by rw [h]; decide)]
      exact Mono.mono (s4.trans s5) hy
  · rintro σ' H2 s2 ⟨z, y, rfl, hy⟩
    dsimp only
    have ht := top ps.length
    rw [List.take_of_length_le (Nat.le_refl _)] at hy ht
    have s12 := s1.trans s2
    have hne : ps.filter (fun p => !CB.exceeds (CB.topOf goal ps) p goal) ≠ [] := fun z => by
      have : CB.topOf goal ps ∈ ps.filter (fun p => !CB.exceeds (CB.topOf goal ps) p goal) := List.mem_filter.mpr ⟨ht, by
        unfold CB.exceeds
        simp⟩
      rw [z] at this
      cases this
    refine s_ret (y_call (n, ps.filter (fun p => !CB.exceeds (CB.topOf goal ps) p goal)) ⟨hne, ?_, fun p hp' => hp p (List.mem_filter.mp hp').1⟩ (ya_cons (Y.toL (y_filter (T := IsTs) (f := id) (p := fun p => !CB.exceeds (CB.topOf goal ps) p goal) hn (y_var rfl (Mono.mono s12 hv)) (fun _ => rfl)
      (fun p hp' x H3 s3 hx => yt_not (yt_B (y_call (CB.topOf goal ps, p, goal) (ok _ _ ht hp') (ya_cons (y_var rfl (Mono.mono s3 hy)) (ya_cons (y_var rfl hx) (ya_cons (y_var rfl (Mono.mono (s12.trans s3) hv2)) ya_nil))))))
      (fun p hp' x H3 s3 hx => yo_T (y_var rfl hx))) (List.map_id _)) ya_nil)) fun u3 H3 s3 p3 => q u3 H3 (s12.trans s3) p3
    exact Nat.le_trans (List.length_filter_le _ _) hn
end
end WK

/- WkG1 -/
/-! Objects: how each is made; networks. -/
namespace WK
open PySem PySem.Spec PyProof.Rows L2
/-- its attributes, in the order in which they are stored -/
def fsOf (names : List Str) (us : List V) : Option (List (Str × V)) := if us.length = names.length then some (names.zip us) else none
def fsNew (l : List (Str × V)) (us : List V) : Option (List (Str × V)) := if us.length = 0 then some l else none
section
variable {P : Program} {w : World} {K : PySem.W.Frag} {mg : Str → Option Value} {base : Heap} {CI CC CS CP : Addr}
theorem InitAt.ok {C : Addr} {qual : Str} {st : Stmt} {ps N : List Str} {k : Nat} {fs : List V → Option (List (Str × V))} (D : InitAt K C qual st ps) (S : FnScope N ps (defScope st))
    (len : ∀ us l, fs us = some l → us.length + 1 = ps.length)
    (body : ∀ (f : Addr) (cdv : Value) (A : Around) (outer : List Env) (s : Shared) (H : Hp) (E : XK) (x dx : Addr) (us : List V) (l : List (Str × V)), Room k (A.deeper (envOfC qual (defScope st) s.heap.objs.size f cdv)) → H x = some (.ins C dx []) → fs us = some l →
      ∃ t, PSs (cxOf CX0 P w K mg base N qual (defScope st) f cdv A outer s H E).nox (defBody st) t ∧ ∀ Q : VK, (∀ H', H' = upd H x (.ins C dx l) → Q .non H') → t { nx := fun _ H' => Q .non H', rt := Q } (start N (.ref x :: us)) H) :
    Di P w K mg base (k + 1) C ps (SpI C fs) := by
  obtain ⟨f, fd, hg, F, b⟩ := D.ex
  refine ⟨f, fd, hg, F.ok S (fun vs H Q E ⟨x, dx, us, l, e, _, h, _⟩ => by rw [e, List.length_cons]; exact len us l h) (fun cdv A outer s H vs Q E hr ⟨x, dx, us, l, e, hx, h, q⟩ => ?_), b⟩
  obtain ⟨t, h1, h2⟩ := body f cdv A outer s H E x dx us l hr hx h
  subst e
  exact ⟨t, h1, h2 Q q⟩
abbrev SpICy (CC : Addr) : Sp := SpI CC (fsOf ["think", "customers", "demands"])
abbrev SpISy (CS : Addr) : Sp := SpI CS (fsOf ["pivot", "columns", "rows"])
abbrev SpIPr (CP : Addr) : Sp := SpI CP (fsOf ["width", "rows", "goal"])
abbrev SpIIn (CI : Addr) : Sp := SpI CI (fsNew [("program", .non), ("cycle", .non)])
theorem fsOf3 {a b c : Str} {us : List V} {l : List (Str × V)} (h : fsOf [a, b, c] us = some l) : ∃ x y z, us = [x, y, z] ∧ l = [(a, x), (b, y), (c, z)] := by
  unfold fsOf at h
  split at h
  case isTrue e =>
    match us, e, h with
    | [x, y, z], _, h => exact ⟨x, y, z, rfl, (Option.some.inj h).symm⟩
  case isFalse => cases h
theorem fslen {a b c : Str} (us : List V) (l : List (Str × V)) (h : fsOf [a, b, c] us = some l) : us.length + 1 = 4 := by
  obtain ⟨x, y, z, e, _⟩ := fsOf3 h
  rw [e]
  rfl
theorem sc_Cycle : FnScope ["self", "think", "customers", "demands"] ["self", "think", "customers", "demands"] (defScope (inClass (top 31) 0)) := ⟨rfl, rfl, rfl, by decide +kernel, rfl, by decide +kernel, by decide +kernel⟩
theorem i_Cycle (T : Txt K mg CI CC CS CP) : Di P w K mg base 1 CC ["self", "think", "customers", "demands"] (SpICy CC) := by
  refine T.i_Cycle.ok (N := ["self", "think", "customers", "demands"]) sc_Cycle fslen ?_
  intro f cdv A outer s H E x dx us l hr hx h
  obtain ⟨u1, u2, u3, rfl, rfl⟩ := fsOf3 h
  refine ⟨_, (pss_cons (ps_fld (pv 0) (pv 1) rfl) (pss_cons (ps_fld (pv 0) (pv 2) rfl) (pss_one (ps_fld (pv 0) (pv 3) rfl)))), fun Q q => ?_⟩
  refine ⟨u1, rfl, .ref x, rfl, x, CC, dx, [], rfl, hx, T.c_Cycle, T.a_Cycle_think, by decide, ?_⟩
  refine ⟨u2, rfl, .ref x, rfl, x, CC, dx, _, rfl, upd_same, T.c_Cycle, T.a_Cycle_customers, (by show 1 < 1000; decide), ?_⟩
  refine ⟨u3, rfl, .ref x, rfl, x, CC, dx, _, rfl, upd_same, T.c_Cycle, T.a_Cycle_demands, (by show 2 < 1000; decide), ?_⟩
  refine q _ ?_
  rw [upd_upd, upd_upd]
  rfl
theorem sc_System : FnScope ["self", "pivot", "columns", "rows"] ["self", "pivot", "columns", "rows"] (defScope (inClass (top 39) 0)) := ⟨rfl, rfl, rfl, by decide +kernel, rfl, by decide +kernel, by decide +kernel⟩
theorem i_System (T : Txt K mg CI CC CS CP) : Di P w K mg base 1 CS ["self", "pivot", "columns", "rows"] (SpISy CS) := by
  refine T.i_System.ok (N := ["self", "pivot", "columns", "rows"]) sc_System fslen ?_
  intro f cdv A outer s H E x dx us l hr hx h
  obtain ⟨u1, u2, u3, rfl, rfl⟩ := fsOf3 h
  refine ⟨_, (pss_cons (ps_fld (pv 0) (pv 1) rfl) (pss_cons (ps_fld (pv 0) (pv 2) rfl) (pss_one (ps_fld (pv 0) (pv 3) rfl)))), fun Q q => ?_⟩
  refine ⟨u1, rfl, .ref x, rfl, x, CS, dx, [], rfl, hx, T.c_System, T.a_System_pivot, by decide, ?_⟩
  refine ⟨u2, rfl, .ref x, rfl, x, CS, dx, _, rfl, upd_same, T.c_System, T.a_System_columns, (by show 1 < 1000; decide), ?_⟩
  refine ⟨u3, rfl, .ref x, rfl, x, CS, dx, _, rfl, upd_same, T.c_System, T.a_System_rows, (by show 2 < 1000; decide), ?_⟩
  refine q _ ?_
  rw [upd_upd, upd_upd]
  rfl
theorem sc_Program : FnScope ["self", "width", "rows", "goal"] ["self", "width", "rows", "goal"] (defScope (inClass (top 44) 0)) := ⟨rfl, rfl, rfl, by decide +kernel, rfl, by decide +kernel, by decide +kernel⟩
theorem i_Program (T : Txt K mg CI CC CS CP) : Di P w K mg base 1 CP ["self", "width", "rows", "goal"] (SpIPr CP) := by
  refine T.i_Program.ok (N := ["self", "width", "rows", "goal"]) sc_Program fslen ?_
  intro f cdv A outer s H E x dx us l hr hx h
  obtain ⟨u1, u2, u3, rfl, rfl⟩ := fsOf3 h
  refine ⟨_, (pss_cons (ps_fld (pv 0) (pv 1) rfl) (pss_cons (ps_fld (pv 0) (pv 2) rfl) (pss_one (ps_fld (pv 0) (pv 3) rfl)))), fun Q q => ?_⟩
  refine ⟨u1, rfl, .ref x, rfl, x, CP, dx, [], rfl, hx, T.c_Program, T.a_Program_width, by decide, ?_⟩
  refine ⟨u2, rfl, .ref x, rfl, x, CP, dx, _, rfl, upd_same, T.c_Program, T.a_Program_rows, (by show 1 < 1000; decide), ?_⟩
  refine ⟨u3, rfl, .ref x, rfl, x, CP, dx, _, rfl, upd_same, T.c_Program, T.a_Program_goal, (by show 2 < 1000; decide), ?_⟩
  refine q _ ?_
  rw [upd_upd, upd_upd]
  rfl
theorem sc_Instance : FnScope ["self"] ["self"] (defScope (inClass (top 1) 0)) := ⟨rfl, rfl, rfl, by decide +kernel, rfl, by decide +kernel, by decide +kernel⟩
theorem i_Instance (T : Txt K mg CI CC CS CP) : Di P w K mg base 1 CI ["self"] (SpIIn CI) := by
  refine T.i_Instance.ok (N := ["self"]) sc_Instance (fun us l h => by
    unfold fsNew at h
    split at h
    case isTrue e => rw [e]; rfl
    case isFalse => cases h) ?_
  intro f cdv A outer s H E x dx us l hr hx h
  have e : us = [] ∧ l = ([("program", .non), ("cycle", .non)] : List (Str × V)) := by
    unfold fsNew at h
    split at h
    case isTrue e => exact ⟨List.length_eq_zero_iff.mp e, (Option.some.inj h).symm⟩
    case isFalse => cases h
  obtain ⟨rfl, rfl⟩ := e
  refine ⟨_, (pss_cons (ps_fld (pv 0) pe_non rfl) (pss_one (ps_fld (pv 0) pe_non rfl))), fun Q q => ?_⟩
  refine ⟨.ref x, rfl, x, CI, dx, [], rfl, hx, T.c_Instance, T.a_Instance_program, by decide, ?_⟩
  refine ⟨.ref x, rfl, x, CI, dx, _, rfl, upd_same, T.c_Instance, T.a_Instance_cycle, by decide, ?_⟩
  refine q _ ?_
  rw [upd_upd]
  rfl
end
/-! what an object is -/
def IsCy (CC : Addr) (c : CB.MC) : V → Hp → Prop := fun v H => ∃ a dx d, v = .ref a ∧ H a = some (.ins CC dx [("think", .int c.think), ("customers", .int c.customers), ("demands", d)]) ∧ IsIs c.demands d H
instance (CC : Addr) (c : CB.MC) : Mono (IsCy CC c) := ⟨fun e ⟨a, dx, d, h1, h2, h3⟩ => ⟨a, dx, d, h1, e _ _ h2, Mono.mono e h3⟩⟩
def IsSy (CS : Addr) (S : CB.MS) : V → Hp → Prop := fun v H => ∃ a dx c r, v = .ref a ∧ H a = some (.ins CS dx [("pivot", .int S.pivot), ("columns", c), ("rows", r)]) ∧ IsIs (S.cols.map fun (n : Nat) => (n : Int)) c H ∧ IsL (IsL RN) S.rows r H
instance (CS : Addr) (S : CB.MS) : Mono (IsSy CS S) := ⟨fun e ⟨a, dx, c, r, h1, h2, h3, h4⟩ => ⟨a, dx, c, r, h1, e _ _ h2, Mono.mono e h3, Mono.mono e h4⟩⟩
def IsPr (CP : Addr) (M : CB.MP) : V → Hp → Prop := fun v H => ∃ a dx r g, v = .ref a ∧ H a = some (.ins CP dx [("width", .int (M.width : Int)), ("rows", r), ("goal", g)]) ∧ IsL (IsL RN) M.rows r H ∧ IsIs M.goal g H
instance (CP : Addr) (M : CB.MP) : Mono (IsPr CP M) := ⟨fun e ⟨a, dx, c, r, h1, h2, h3, h4⟩ => ⟨a, dx, c, r, h1, e _ _ h2, Mono.mono e h3, Mono.mono e h4⟩⟩
section
variable {σ : L2.St} {H : Hp} {te ta tb tc tl : TE} {K : PySem.W.Frag} {mg : Str → Option Value} {CI CC CS CP : Addr} {c : CB.MC} {S : CB.MS} {M : CB.MP}
theorem y_think (T : Txt K mg CI CC CS CP) (h : Y ta σ H (IsCy CC c)) : Y (tFld K ta "think") σ H (IsN c.think) := y_fldO h fun v H' ⟨a, dx, d, h1, h2, h3⟩ => ⟨a, CC, dx, _, _, h1, h2, T.c_Cycle, T.a_Cycle_think, rfl, rfl⟩
theorem y_customers (T : Txt K mg CI CC CS CP) (h : Y ta σ H (IsCy CC c)) : Y (tFld K ta "customers") σ H (IsN c.customers) := y_fldO h fun v H' ⟨a, dx, d, h1, h2, h3⟩ => ⟨a, CC, dx, _, _, h1, h2, T.c_Cycle, T.a_Cycle_customers, rfl, rfl⟩
theorem y_demands (T : Txt K mg CI CC CS CP) (h : Y ta σ H (IsCy CC c)) : Y (tFld K ta "demands") σ H (IsIs c.demands) := y_fldO h fun v H' ⟨a, dx, d, h1, h2, h3⟩ => ⟨a, CC, dx, _, _, h1, h2, T.c_Cycle, T.a_Cycle_demands, rfl, h3⟩
theorem y_pivot (T : Txt K mg CI CC CS CP) (h : Y ta σ H (IsSy CS S)) : Y (tFld K ta "pivot") σ H (IsN S.pivot) := y_fldO h fun v H' ⟨a, dx, d, r, h1, h2, h3, h4⟩ => ⟨a, CS, dx, _, _, h1, h2, T.c_System, T.a_System_pivot, rfl, rfl⟩
theorem y_columns (T : Txt K mg CI CC CS CP) (h : Y ta σ H (IsSy CS S)) : Y (tFld K ta "columns") σ H (IsIs (S.cols.map fun (n : Nat) => (n : Int))) := y_fldO h fun v H' ⟨a, dx, d, r, h1, h2, h3, h4⟩ => ⟨a, CS, dx, _, _, h1, h2, T.c_System, T.a_System_columns, rfl, h3⟩
theorem y_srows (T : Txt K mg CI CC CS CP) (h : Y ta σ H (IsSy CS S)) : Y (tFld K ta "rows") σ H (IsL (IsL RN) S.rows) := y_fldO h fun v H' ⟨a, dx, d, r, h1, h2, h3, h4⟩ => ⟨a, CS, dx, _, _, h1, h2, T.c_System, T.a_System_rows, rfl, h4⟩
theorem y_width (T : Txt K mg CI CC CS CP) (h : Y ta σ H (IsPr CP M)) : Y (tFld K ta "width") σ H (IsN (M.width : Int)) := y_fldO h fun v H' ⟨a, dx, d, r, h1, h2, h3, h4⟩ => ⟨a, CP, dx, _, _, h1, h2, T.c_Program, T.a_Program_width, rfl, rfl⟩
theorem y_rows (T : Txt K mg CI CC CS CP) (h : Y ta σ H (IsPr CP M)) : Y (tFld K ta "rows") σ H (IsL (IsL RN) M.rows) := y_fldO h fun v H' ⟨a, dx, d, r, h1, h2, h3, h4⟩ => ⟨a, CP, dx, _, _, h1, h2, T.c_Program, T.a_Program_rows, rfl, h3⟩
theorem y_goal (T : Txt K mg CI CC CS CP) (h : Y ta σ H (IsPr CP M)) : Y (tFld K ta "goal") σ H (IsIs M.goal) := y_fldO h fun v H' ⟨a, dx, d, r, h1, h2, h3, h4⟩ => ⟨a, CP, dx, _, _, h1, h2, T.c_Program, T.a_Program_goal, rfl, h4⟩
/-! new ones -/
theorem yo_cycle (c : CB.MC) (h1 : Y ta σ H (IsN c.think)) (h2 : Y tb σ H (IsN c.customers)) (h3 : Y tc σ H (IsIs c.demands)) : YO (tMake CC (SpICy CC) [] E0 (tCons ta (tCons tb (tCons tc tNil)))) σ H (IsCy CC c) :=
  yo_make (ya_cons h1 (ya_cons h2 (ya_cons h3 ya_nil))) fun vs H' s ⟨v1, r1, e1, p1, v2, r2, e2, p2, v3, r3, e3, p3, e4⟩ => by
    subst e1 e2 e3 e4
    cases p1
    cases p2
    exact ⟨_, rfl, fun x dx hx H2 s2 h => ⟨x, dx, v3, rfl, h, Mono.mono s2 p3⟩⟩
theorem yo_system {ta tb tc : TE} (S : CB.MS) (h1 : Y ta σ H (IsN S.pivot)) (h2 : Y tb σ H (IsIs (S.cols.map fun (n : Nat) => (n : Int)))) (h3 : Y tc σ H (IsL (IsL RN) S.rows)) : YO (tMake CS (SpISy CS) [] E0 (tCons ta (tCons tb (tCons tc tNil)))) σ H (IsSy CS S) :=
  yo_make (ya_cons h1 (ya_cons h2 (ya_cons h3 ya_nil))) fun vs H' s ⟨v1, r1, e1, p1, v2, r2, e2, p2, v3, r3, e3, p3, e4⟩ => by
    subst e1 e2 e3 e4
    cases p1
    exact ⟨_, rfl, fun x dx hx H2 s2 h => ⟨x, dx, v2, v3, rfl, h, Mono.mono s2 p2, Mono.mono s2 p3⟩⟩
theorem yo_program {ta tb tc : TE} (M : CB.MP) (h1 : Y ta σ H (IsN (M.width : Int))) (h2 : Y tb σ H (IsL (IsL RN) M.rows)) (h3 : Y tc σ H (IsIs M.goal)) : YO (tMake CP (SpIPr CP) [] E0 (tCons ta (tCons tb (tCons tc tNil)))) σ H (IsPr CP M) :=
  yo_make (ya_cons h1 (ya_cons h2 (ya_cons h3 ya_nil))) fun vs H' s ⟨v1, r1, e1, p1, v2, r2, e2, p2, v3, r3, e3, p3, e4⟩ => by
    subst e1 e2 e3 e4
    cases p1
    exact ⟨_, rfl, fun x dx hx H2 s2 h => ⟨x, dx, v2, v3, rfl, h, Mono.mono s2 p2, Mono.mono s2 p3⟩⟩
end
end WK

/- WkG2 -/
/-! The defs: networks. -/
namespace WK
open PySem PySem.Spec PyProof.Rows L2
structure OkCyc (c : CB.MC) : Prop where
  ne : c.demands ≠ []
  few : c.demands.length ≤ 8
  d : ∀ d ∈ c.demands, 1 ≤ d ∧ d ≤ 1000
  t0 : 0 ≤ c.think
  t1 : c.think ≤ 10000
  c0 : 1 ≤ c.customers
  c1 : c.customers ≤ 40
theorem bd_add2 {i j : Int} {a b : Nat} (ha : i.natAbs < 2 ^ a) (hb : j.natAbs < 2 ^ b) : (i + j).natAbs < 2 ^ (a + b + 1) := bd_add (bd_up ha (by omega)) (bd_up hb (by omega))
theorem bd_pred {i : Int} {a : Nat} (ha : i.natAbs < 2 ^ a) (h : 1 ≤ i) : (i - 1).natAbs < 2 ^ a := by omega
theorem maxL_ge : ∀ (l : List Int) (a : Int), a ≤ l.foldl max a ∧ ∀ x ∈ l, x ≤ l.foldl max a
  | [], a => ⟨Int.le_refl _, fun x h => absurd h List.not_mem_nil⟩
  | y :: l, a => by
    obtain ⟨h1, h2⟩ := maxL_ge l (max a y)
    rw [List.foldl_cons]
    refine ⟨by omega, fun x hx => ?_⟩
    rcases List.mem_cons.mp hx with rfl | hx
    · omega
    · exact h2 x hx
theorem maxL_le : ∀ (l : List Int) (a m : Int), a ≤ m → (∀ x ∈ l, x ≤ m) → l.foldl max a ≤ m
  | [], _, _, h, _ => h
  | y :: l, a, m, h, k => by
    rw [List.foldl_cons]
    refine maxL_le l _ m ?_ fun x hx => k x (List.mem_cons_of_mem _ hx)
    have := k y (List.mem_cons_self ..)
    omega
theorem maxL_is {l : List Int} {x : Int} (h : x ∈ l) (k : ∀ y ∈ l, y ≤ x) (h0 : 0 ≤ x) : x = CB.maxL l := by
  have h1 := (maxL_ge l 0).2 x h
  have h2 := maxL_le l 0 x h0 k
  unfold CB.maxL
  omega
theorem sum_range : ∀ (l : List Int), (∀ d ∈ l, 1 ≤ d ∧ d ≤ 1000) → (l.length : Int) ≤ l.sum ∧ l.sum ≤ 1000 * l.length
  | [], _ => by simp
  | d :: l, h => by
    have h1 := h d (List.mem_cons_self ..)
    have h2 := sum_range l fun x hx => h x (List.mem_cons_of_mem _ hx)
    rw [List.sum_cons, List.length_cons]
    omega
theorem OkCyc.sum {c : CB.MC} (h : OkCyc c) : 1 ≤ c.demands.sum ∧ c.demands.sum ≤ 8000 := by
  have h1 := sum_range c.demands h.d
  have h2 := List.length_pos_iff.mpr h.ne
  have h3 := h.few
  omega
theorem OkCyc.max {c : CB.MC} (h : OkCyc c) : 1 ≤ CB.maxL c.demands ∧ CB.maxL c.demands ≤ 1000 := by
  have h1 := (h.d _ (head_mem (d := 0) h.ne)).1
  have h2 := (maxL_ge c.demands 0).2 _ (head_mem (d := 0) h.ne)
  refine ⟨?_, maxL_le _ _ _ (by decide) fun x hx => (h.d x hx).2⟩
  unfold CB.maxL
  omega
theorem lowest_bd {B : Nat} {n d : Int} (hn : n.natAbs < 2 ^ B) (hd : d.natAbs < 2 ^ B) : BdL B (CB.lowest n d) := fun x hx => by
  unfold CB.lowest at hx
  rcases List.mem_cons.mp hx with h | h
  · rw [h]
    exact Nat.lt_of_le_of_lt (Int.natAbs_fdiv_le_natAbs _ _) hn
  · rw [List.mem_singleton.mp h]
    exact Nat.lt_of_le_of_lt (Int.natAbs_fdiv_le_natAbs _ _) hd
section
variable {σ : L2.St} {H : Hp} {te ta tb tc tl tr : TE} {P P1 P2 : V → Hp → Prop} {A : List V → Hp → Prop} {K : PySem.W.Frag} {D : Ends} {u t : TS} {mg : Str → Option Value} {CI CC CS CP : Addr}
theorem y_most {c : CB.MC} (h : OkCyc c) {ta : TA} (k : YA ta σ H (AC (IsIs c.demands) AN)) : Y (tCB (rMax K) ta) σ H (IsN (CB.maxL c.demands)) :=
  y_max h.ne (fun x hx hy => maxL_is hx hy (by have := (h.d x hx).1; omega)) k
/-- xs.append(e), e no list that was there -/
theorem s_appendO {d : Addr} {xs : List V} (ho : Y tr σ H (IsV (.ref d))) (hd : H d = some (.lst xs)) (hl : xs.length < 100000) (h : YO te σ H P) (k : ∀ v H1, Same H H1 → P v H1 → v ≠ .ref d → H1 d = some (.lst xs) → D.nx σ (upd H1 d (.lst (xs ++ [v])))) : tDrop (tBM K "list" rAppend tr (tCons te tNil)) D σ H :=
  ho H (Same.refl _) _ fun x H1 e hx => by
    cases hx
    refine ⟨.inl ⟨rfl, _, SqL.of (e _ _ hd)⟩, ?_⟩
    refine h H1 e _ fun v H2 e2 p o => ⟨d, xs, v, rfl, rfl, e2 _ _ (e _ _ hd), Nat.lt_of_lt_of_le hl (by decide), k v H2 (e.trans e2) p (o d _ (e _ _ hd)) (e2 _ _ (e _ _ hd))⟩
/-- x = [e] -/
theorem s_new1 {i : Nat} (h : Y te σ H P) (k : ∀ v H1 d, Same H H1 → P v H1 → H1 d = none → u D (σ.set i (some (.ref d))) (upd H1 d (.lst [v]))) : tSeq (tAsg (tLst (tCons te tNil)) (gName i)) u D σ H :=
  h H (Same.refl _) _ fun v H1 e p => ⟨(by show 1 ≤ sizeLine; decide), fun d hd => k v H1 d e p hd⟩
end
theorem isIs_ne {ns : List Int} {v : V} {H : Hp} {d : Addr} (h : IsIs ns v H) (hd : H d = none) : v ≠ .ref d := by
  obtain ⟨p, e, k⟩ := isIs_iff.mp h
  intro z
  rw [e] at z
  cases z
  rw [hd] at k
  cases k
/-! numbers of the exact throughput -/
theorem stays_mem {c : CB.MC} {w : Int} {ls : List Int} {x : Int} (h : x ∈ CB.stays c w ls) : ∃ d l, d ∈ c.demands ∧ l ∈ ls ∧ x = d * (w + l) := mem_zipWith h
theorem exM_len (c : CB.MC) : ∀ k, (CB.exM c k).2.1.length = c.demands.length
  | 0 => List.length_replicate
  | k + 1 => by
    show ((CB.stays c (CB.exM c k).1 (CB.exM c k).2.1).map _).length = _
    rw [List.length_map]
    unfold CB.stays
    rw [List.length_zipWith, exM_len c k, Nat.min_self]
theorem exM_found (c : CB.MC) : ∀ k, (CB.exM c k).2.2.length = k + 1
  | 0 => rfl
  | k + 1 => by
    show ((CB.exM c k).2.2 ++ [_]).length = _
    rw [List.length_append, exM_found c k]
    rfl
theorem sum_nonneg : ∀ (l : List Int), (∀ x ∈ l, 0 ≤ x) → 0 ≤ l.sum
  | [], _ => Int.le_refl _
  | x :: l, h => by
    rw [List.sum_cons]
    have := h x (List.mem_cons_self ..)
    have := sum_nonneg l fun y hy => h y (List.mem_cons_of_mem _ hy)
    omega
structure ExB (c : CB.MC) (k : Nat) : Prop where
  w0 : 1 ≤ (CB.exM c k).1
  w1 : (CB.exM c k).1.natAbs < 2 ^ (17 * k + 1)
  l0 : ∀ x ∈ (CB.exM c k).2.1, 0 ≤ x
  l1 : BdL (17 * k + 1) (CB.exM c k).2.1
theorem stays_ok {c : CB.MC} (h : OkCyc c) {k : Nat} (e : ExB c k) : (∀ x ∈ CB.stays c (CB.exM c k).1 (CB.exM c k).2.1, 1 ≤ x) ∧ BdL (17 * k + 12) (CB.stays c (CB.exM c k).1 (CB.exM c k).2.1) := by
  refine ⟨fun x hx => ?_, fun x hx => ?_⟩
  · obtain ⟨d, l, hd, hl, rfl⟩ := stays_mem hx
    have h1 := (h.d d hd).1
    have h2 := e.l0 l hl
    have h3 := e.w0
    have : 0 < d * ((CB.exM c k).1 + l) := Int.mul_pos (by omega) (by omega)
    omega
  · obtain ⟨d, l, hd, hl, rfl⟩ := stays_mem hx
    have h1 := h.d d hd
    refine bd_up (bd_mul (a := 10) (b := 17 * k + 2) ?_ (bd_add e.w1 (e.l1 l hl))) (by omega)
    show d.natAbs < 1024
    omega
theorem round_ok {c : CB.MC} (h : OkCyc c) {k : Nat} (e : ExB c k) : 1 ≤ c.think * (CB.exM c k).1 + (CB.stays c (CB.exM c k).1 (CB.exM c k).2.1).sum ∧ (c.think * (CB.exM c k).1 + (CB.stays c (CB.exM c k).1 (CB.exM c k).2.1).sum).natAbs < 2 ^ (17 * (k + 1) + 1) := by
  obtain ⟨h1, h2⟩ := stays_ok h e
  have hl : (CB.stays c (CB.exM c k).1 (CB.exM c k).2.1).length = c.demands.length := by
    unfold CB.stays
    rw [List.length_zipWith, exM_len, Nat.min_self]
  have h3 : 0 ≤ c.think * (CB.exM c k).1 := Int.mul_nonneg h.t0 (by have := e.w0; omega)
  refine ⟨?_, ?_⟩
  · cases q : CB.stays c (CB.exM c k).1 (CB.exM c k).2.1 with
    | nil =>
      rw [q] at hl
      exact absurd (List.length_eq_zero_iff.mp hl.symm) h.ne
    | cons x l =>
      rw [q] at h1
      have h4 := h1 x (List.mem_cons_self ..)
      have h5 := sum_nonneg l fun y hy => by have := h1 y (List.mem_cons_of_mem _ hy); omega
      rw [List.sum_cons]
      omega
  · have h4 := sum_bd _ h2
    have h5 : (CB.stays c (CB.exM c k).1 (CB.exM c k).2.1).length ≤ 8 := by rw [hl]; exact h.few
    have h6 : (CB.stays c (CB.exM c k).1 (CB.exM c k).2.1).sum.natAbs < 2 ^ (17 * k + 16) := by
      have e16 : 2 ^ (17 * k + 16) = 16 * 2 ^ (17 * k + 12) := by rw [show 17 * k + 16 = (17 * k + 12) + 4 by omega, Nat.pow_add, Nat.mul_comm]
      have : 0 < 2 ^ (17 * k + 12) := Nat.pow_pos (by decide)
      rw [e16]
      calc _ ≤ _ := h4
        _ ≤ 8 * 2 ^ (17 * k + 12) := Nat.mul_le_mul_right _ h5
        _ < _ := by omega
    have h7 : (c.think * (CB.exM c k).1).natAbs < 2 ^ (17 * k + 16) := bd_up (bd_mul (a := 14) (b := 17 * k + 1) (by show c.think.natAbs < 16384; have := h.t0; have := h.t1; omega) e.w1) (by omega)
    exact bd_up (bd_add h7 h6) (by omega)
theorem exB {c : CB.MC} (h : OkCyc c) : ∀ k, k ≤ 40 → ExB c k
  | 0, _ => ⟨(by show (1 : Int) ≤ 1; decide), (by show (1 : Int).natAbs < 2 ^ 1; decide), fun x hx => by rw [List.eq_of_mem_replicate hx]; decide, fun x hx => by rw [List.eq_of_mem_replicate hx]; decide⟩
  | k + 1, hk => by
    have e := exB h k (by omega)
    obtain ⟨h1, h2⟩ := round_ok h e
    obtain ⟨h3, h4⟩ := stays_ok h e
    refine ⟨h1, h2, fun x hx => ?_, fun x hx => ?_⟩
    · obtain ⟨y, hy, rfl⟩ := List.mem_map.mp hx
      have := h3 y hy
      exact Int.mul_nonneg (by omega) (by omega)
    · obtain ⟨y, hy, rfl⟩ := List.mem_map.mp hx
      exact bd_up (bd_mul (a := 6) (b := 17 * k + 12) (by show (((k + 1 : Nat) : Int)).natAbs < 64; omega) (h4 y hy)) (by omega)
end WK

/- WkG3 -/
/-! The defs: networks. -/
namespace WK
open PySem PySem.Spec PyProof.Rows L2
section
variable {P : Program} {w : World} {K : PySem.W.Frag} {mg : Str → Option Value} {base : Heap} {CI CC CS CP : Addr}
abbrev SpSmall : Sp := SpF (fun a => a.1.length = 2 ∧ a.2.length = 2 ∧ BdL 6000 a.1 ∧ BdL 6000 a.2) (fun (a : List Int × List Int) => AC (IsIs a.1) (AC (IsIs a.2) AN)) (fun a => IsIs (CB.smallerM a.1 a.2))
theorem at2 {l : List Int} (h : l.length = 2) : atI l 0 = some (l.getD 0 0) ∧ atI l 1 = some (l.getD 1 0) := by
  match l, h with
  | [a, b], _ => exact ⟨rfl, rfl⟩
theorem sc_smaller : FnScope ["first", "second"] ["first", "second"] (defScope (top 32)) := ⟨rfl, rfl, rfl, by decide +kernel, rfl, by decide +kernel, by decide +kernel⟩
theorem d_smaller (T : Txt K mg CI CC CS CP) : Dk P w K mg base 1 "smaller" ["first", "second"] SpSmall := by
  refine T.d_smaller.ok (N := ["first", "second"]) sc_smaller (fun a vs H h => len2 h) ?_
  intro f cdv A outer s H vs E a hr ⟨l1, l2, b1, b2⟩ ⟨v, r, e1, hv, v2, r2, e2, hv2, e3⟩
  subst e1 e2 e3
  refine ⟨_, (pss_cons (ps_if (pt_cmpR op_le (pe_op op_mulW (pe_ix ix_list (pv 0) pe_int (fun _ _ => rfl)) (pe_ix ix_list (pv 1) pe_int (fun _ _ => rfl))) (pe_op op_mulW (pe_ix ix_list (pv 1) pe_int (fun _ _ => rfl)) (pe_ix ix_list (pv 0) pe_int (fun _ _ => rfl))) (nomark _)) (pss_one (ps_ret (pv 0))) pss_nil) (pss_one (ps_ret (pv 1)))), fun Q q => ?_⟩
  refine s_if (yt_test (y_I0 (y_mul (y_ixI (y_var rfl hv) y_c (at2 l1).1) (y_ixI (y_var rfl hv2) y_c (at2 l2).2) (b1.get 0) (b2.get 1) (by decide) (by decide) (by decide)) (y_mul (y_ixI (y_var rfl hv2) y_c (at2 l2).1) (y_ixI (y_var rfl hv) y_c (at2 l1).2) (b2.get 0) (b1.get 1) (by decide) (by decide) (by decide)))) (fun h H1 s1 => s_ret (y_var rfl (Mono.mono s1 hv)) fun u H2 s2 p => q u H2 (s1.trans s2) ?_) fun h H1 s1 => s_ret (y_var rfl (Mono.mono s1 hv2)) fun u H2 s2 p => q u H2 (s1.trans s2) ?_
  · unfold CB.smallerM
    rw [if_pos (of_decide_eq_true h)]
    exact p
  · unfold CB.smallerM
    rw [if_neg (of_decide_eq_false h)]
    exact p
abbrev SpCyc (CC : Addr) (g : CB.MC → List Int) : Sp := SpF OkCyc (fun (c : CB.MC) => AC (IsCy CC c) AN) (fun c => IsIs (g c))
theorem sc_asymptotic_bounds : FnScope ["cycle", "customers", "total", "lower", "upper"] ["cycle"] (defScope (top 33)) := ⟨rfl, rfl, rfl, by decide +kernel, rfl, by decide +kernel, by decide +kernel⟩
theorem d_asymptotic_bounds (T : Txt K mg CI CC CS CP) (D_lowest : Dk P w K mg base 2 "lowest" ["numerator", "denominator"] SpLow) (D_smaller : Dk P w K mg base 1 "smaller" ["first", "second"] SpSmall) : Dk P w K mg base 3 "asymptotic_bounds" ["cycle"] (SpCyc CC CB.asymM) := by
  refine T.d_asymptotic_bounds.ok (N := ["cycle", "customers", "total", "lower", "upper"]) sc_asymptotic_bounds (fun a vs H h => len1 h) ?_
  intro f cdv A outer s H vs E c hr ok ⟨v, r, e1, hv, e2⟩
  subst e1 e2
  have hs := ok.sum
  have hm := ok.max
  have t0 := ok.t0
  have t1 := ok.t1
  have c0 := ok.c0
  have c1 := ok.c1
  have bc : c.customers.natAbs < 2 ^ 6 := by show _ < 64; omega
  have bt : c.demands.sum.natAbs < 2 ^ 13 := by show _ < 8192; omega
  have bk : c.think.natAbs < 2 ^ 14 := by show _ < 16384; omega
  have p1 : 0 < c.customers * c.demands.sum := Int.mul_pos (by omega) (by omega)
  have b1 : (c.customers * c.demands.sum + c.think).natAbs < 2 ^ 9000 := bd_up (bd_add2 (bd_mul bc bt) bk) (by decide)
  have b2 : (c.demands.sum + c.think).natAbs < 2 ^ 6000 := bd_up (bd_add2 bt bk) (by decide)
  refine ⟨_, (pss_cons (ps_set (i := 1) sc_asymptotic_bounds.nd rfl (.inl rfl) (pe_fld (pv 0) rfl)) (pss_cons (ps_set (i := 2) sc_asymptotic_bounds.nd rfl (.inl rfl) (pe_callB (cr_sum rfl) (by rfl) T.b_sum PyProof.Rows.boot_sum (pa_cons (pe_fld (pv 0) rfl) pa_nil))) (pss_cons (ps_set (i := 3) sc_asymptotic_bounds.nd rfl (.inl rfl) (D_lowest.call hr (by decide) (by rfl) (pa_cons (pv 1) (pa_cons (pe_op op_add (pe_op op_mulW (pv 1) (pv 2)) (pe_fld (pv 0) rfl)) pa_nil)))) (pss_cons (ps_set (i := 4) sc_asymptotic_bounds.nd rfl (.inl rfl) (D_lowest.call hr (by decide) (by rfl) (pa_cons (pv 1) (pa_cons (pe_op op_add (pv 2) (pe_fld (pv 0) rfl)) pa_nil)))) (pss_one (ps_ret (pe_op op_cat (pv 3) (D_smaller.call hr (by decide) (by rfl) (pa_cons (pv 4) (pa_cons (pe_lst (pa_cons pe_int (pa_cons (pe_callB (cr_max rfl) (by rfl) T.b_max PyProof.Rows.boot_max (pa_cons (pe_fld (pv 0) rfl) pa_nil)) pa_nil))) pa_nil)))))))))), fun Q q => ?_⟩
  refine s_set (y_customers T (y_var rfl hv)) fun u1 H1 s1 p => ?_
  cases p
  refine s_set (y_sum (ya_cons (y_demands T (y_var rfl (Mono.mono s1 hv))) ya_nil)) fun u2 H2 s2 p => ?_
  cases p
  have s12 := s1.trans s2
  refine s_set (YO.y (y_callO (c.customers, c.customers * c.demands.sum + c.think) ⟨by show _ + _ ≠ (0 : Int); omega, b1⟩ (ya_cons (y_val rfl) (ya_cons (y_I0 (y_mul (y_val rfl) (y_val rfl) bc bt (by decide) (by decide) (by decide)) (y_think T (y_var rfl (Mono.mono s12 hv)))) ya_nil)))) fun u3 H3 s3 p3 => ?_
  have s13 := s12.trans s3
  refine s_set (YO.y (y_callO (c.customers, c.demands.sum + c.think) ⟨by show _ + _ ≠ (0 : Int); omega, bd_up b2 (by decide)⟩ (ya_cons (y_val rfl) (ya_cons (y_I0 (y_val rfl) (y_think T (y_var rfl (Mono.mono s13 hv)))) ya_nil)))) fun u4 H4 s4 p4 => ?_
  have s14 := s13.trans s4
  refine s_ret (YO.y (yo_cat (y_var rfl (Mono.mono s4 p3)) (y_call (_, [1, CB.maxL c.demands]) ⟨rfl, rfl, lowest_bd (bd_up bc (by decide)) b2, ?_⟩ (ya_cons (y_var rfl p4) (ya_cons (y_list2 y_c (y_most ok (ya_cons (y_demands T (y_var rfl (Mono.mono s14 hv))) ya_nil))) ya_nil))) ?_)) fun u5 H5 s5 p5 => q u5 H5 (s14.trans s5) p5
  · intro x hx
    refine bd_up (a := 11) ?_ (by decide)
    show _ < 2048
    rcases List.mem_cons.mp hx with h | h
    · omega
    · rw [List.mem_singleton] at h
      omega
  · show 2 + (CB.smallerM _ _).length ≤ _
    unfold CB.smallerM
    split
    · show 2 + 2 ≤ 100000; decide
    · show 2 + 2 ≤ 100000; decide
theorem sc_balanced_bounds : FnScope ["cycle", "customers", "queues", "total", "greatest", "alone", "crowded", "lower", "upper"] ["cycle"] (defScope (top 34)) := ⟨rfl, rfl, rfl, by decide +kernel, rfl, by decide +kernel, by decide +kernel⟩
theorem d_balanced_bounds (T : Txt K mg CI CC CS CP) (D_lowest : Dk P w K mg base 2 "lowest" ["numerator", "denominator"] SpLow) (D_smaller : Dk P w K mg base 1 "smaller" ["first", "second"] SpSmall) : Dk P w K mg base 3 "balanced_bounds" ["cycle"] (SpCyc CC CB.balM) := by
  refine T.d_balanced_bounds.ok (N := ["cycle", "customers", "queues", "total", "greatest", "alone", "crowded", "lower", "upper"]) sc_balanced_bounds (fun a vs H h => len1 h) ?_
  intro f cdv A outer s H vs E c hr ok ⟨v, r, e1, hv, e2⟩
  subst e1 e2
  have hs := ok.sum
  have hm := ok.max
  have t0 := ok.t0
  have t1 := ok.t1
  have c0 := ok.c0
  have c1 := ok.c1
  have l0 := List.length_pos_iff.mpr ok.ne
  have l1 := ok.few
  have bc : c.customers.natAbs < 2 ^ 6 := by show _ < 64; omega
  have bc' : (c.customers - 1).natAbs < 2 ^ 6 := by show _ < 64; omega
  have bt : c.demands.sum.natAbs < 2 ^ 13 := by show _ < 8192; omega
  have bk : c.think.natAbs < 2 ^ 14 := by show _ < 16384; omega
  have bg : (CB.maxL c.demands).natAbs < 2 ^ 10 := by show _ < 1024; omega
  have bq : ((c.demands.length : Int)).natAbs < 2 ^ 4 := by show _ < 16; omega
  have p1 : 0 < c.customers * c.demands.sum := Int.mul_pos (by omega) (by omega)
  have ba : (c.demands.sum + c.think).natAbs < 2 ^ 28 := bd_add2 bt bk
  have bw : (c.customers * c.demands.sum + c.think).natAbs < 2 ^ 34 := bd_add2 (bd_mul bc bt) bk
  have pa : 0 < c.demands.sum + c.think := by omega
  have pw : 0 < c.customers * c.demands.sum + c.think := by omega
  have d1 : 0 < (c.demands.sum + c.think) * (c.customers * c.demands.sum + c.think) + (c.customers - 1) * CB.maxL c.demands * c.customers * c.demands.sum := by
    have h1 := Int.mul_pos pa pw
    have h2 : 0 ≤ (c.customers - 1) * CB.maxL c.demands * c.customers * c.demands.sum := Int.mul_nonneg (Int.mul_nonneg (Int.mul_nonneg (by omega) (by omega)) (by omega)) (by omega)
    omega
  have d2 : 0 < (c.demands.length : Int) * (c.demands.sum + c.think) * (c.demands.sum + c.think) + (c.customers - 1) * c.demands.sum * c.demands.sum := by
    have h1 := Int.mul_pos (Int.mul_pos (by omega : 0 < (c.demands.length : Int)) pa) pa
    have h2 : 0 ≤ (c.customers - 1) * c.demands.sum * c.demands.sum := Int.mul_nonneg (Int.mul_nonneg (by omega) (by omega)) (by omega)
    omega
  have b1 := bd_add2 (bd_mul ba bw) (bd_mul (bd_mul (bd_mul bc' bg) bc) bt)
  have b2 := bd_add2 (bd_mul (bd_mul bq ba) ba) (bd_mul (bd_mul bc' bt) bt)
  refine ⟨_, (pss_cons (ps_set (i := 1) sc_balanced_bounds.nd rfl (.inl rfl) (pe_fld (pv 0) rfl)) (pss_cons (ps_set (i := 2) sc_balanced_bounds.nd rfl (.inl rfl) (pe_callB call_len_seq (by rfl) T.b_len PySem.boot_len (pa_cons (pe_fld (pv 0) rfl) pa_nil))) (pss_cons (ps_set (i := 3) sc_balanced_bounds.nd rfl (.inl rfl) (pe_callB (cr_sum rfl) (by rfl) T.b_sum PyProof.Rows.boot_sum (pa_cons (pe_fld (pv 0) rfl) pa_nil))) (pss_cons (ps_set (i := 4) sc_balanced_bounds.nd rfl (.inl rfl) (pe_callB (cr_max rfl) (by rfl) T.b_max PyProof.Rows.boot_max (pa_cons (pe_fld (pv 0) rfl) pa_nil))) (pss_cons (ps_set (i := 5) sc_balanced_bounds.nd rfl (.inl rfl) (pe_op op_add (pv 3) (pe_fld (pv 0) rfl))) (pss_cons (ps_set (i := 6) sc_balanced_bounds.nd rfl (.inl rfl) (pe_op op_add (pe_op op_mulW (pv 1) (pv 3)) (pe_fld (pv 0) rfl))) (pss_cons (ps_set (i := 7) sc_balanced_bounds.nd rfl (.inl rfl) (D_lowest.call hr (by decide) (by rfl) (pa_cons (pe_op op_mulW (pv 1) (pv 6)) (pa_cons (pe_op op_add (pe_op op_mulW (pv 5) (pv 6)) (pe_op op_mulW (pe_op op_mulW (pe_op op_mulW (pe_op op_sub (pv 1) pe_int) (pv 4)) (pv 1)) (pv 3))) pa_nil)))) (pss_cons (ps_set (i := 8) sc_balanced_bounds.nd rfl (.inl rfl) (D_lowest.call hr (by decide) (by rfl) (pa_cons (pe_op op_mulW (pe_op op_mulW (pv 1) (pv 2)) (pv 5)) (pa_cons (pe_op op_add (pe_op op_mulW (pe_op op_mulW (pv 2) (pv 5)) (pv 5)) (pe_op op_mulW (pe_op op_mulW (pe_op op_sub (pv 1) pe_int) (pv 3)) (pv 3))) pa_nil)))) (pss_one (ps_ret (pe_op op_cat (pv 7) (D_smaller.call hr (by decide) (by rfl) (pa_cons (pv 8) (pa_cons (pe_lst (pa_cons pe_int (pa_cons (pv 4) pa_nil))) pa_nil)))))))))))))), fun Q q => ?_⟩
  refine s_set (y_customers T (y_var rfl hv)) fun u1 H1 s1 p => ?_
  cases p
  refine s_set (y_len (ya_cons (y_demands T (y_var rfl (Mono.mono s1 hv))) ya_nil)) fun u2 H2 s2 p => ?_
  cases p
  have s12 := s1.trans s2
  refine s_set (y_sum (ya_cons (y_demands T (y_var rfl (Mono.mono s12 hv))) ya_nil)) fun u3 H3 s3 p => ?_
  cases p
  have s13 := s12.trans s3
  refine s_set (y_most ok (ya_cons (y_demands T (y_var rfl (Mono.mono s13 hv))) ya_nil)) fun u4 H4 s4 p => ?_
  cases p
  have s14 := s13.trans s4
  refine s_set (y_I0 (y_val rfl) (y_think T (y_var rfl (Mono.mono s14 hv)))) fun u5 H5 s5 p => ?_
  cases p
  have s15 := s14.trans s5
  refine s_set (y_I0 (y_mul (y_val rfl) (y_val rfl) bc bt (by decide) (by decide) (by decide)) (y_think T (y_var rfl (Mono.mono s15 hv)))) fun u6 H6 s6 p => ?_
  cases p
  have s16 := s15.trans s6
  refine s_set (YO.y (y_callO (_, _) ⟨Int.ne_of_gt d1, bd_up b1 (by decide)⟩ (ya_cons (y_mul (y_val rfl) (y_val rfl) bc bw (by decide) (by decide) (by decide)) (ya_cons (y_I0 (y_mul (y_val rfl) (y_val rfl) ba bw (by decide) (by decide) (by decide)) (y_mul (y_mul (y_mul (y_I0 (y_val rfl) y_c) (y_val rfl) bc' bg (by decide) (by decide) (by decide)) (y_val rfl) (bd_mul bc' bg) bc (by decide) (by decide) (by decide)) (y_val rfl) (bd_mul (bd_mul bc' bg) bc) bt (by decide) (by decide) (by decide))) ya_nil)))) fun u7 H7 s7 p7 => ?_
  have s17 := s16.trans s7
  refine s_set (YO.y (y_callO (_, _) ⟨Int.ne_of_gt d2, bd_up b2 (by decide)⟩ (ya_cons (y_mul (y_mul (y_val rfl) (y_val rfl) bc bq (by decide) (by decide) (by decide)) (y_val rfl) (bd_mul bc bq) ba (by decide) (by decide) (by decide)) (ya_cons (y_I0 (y_mul (y_mul (y_val rfl) (y_val rfl) bq ba (by decide) (by decide) (by decide)) (y_val rfl) (bd_mul bq ba) ba (by decide) (by decide) (by decide)) (y_mul (y_mul (y_I0 (y_val rfl) y_c) (y_val rfl) bc' bt (by decide) (by decide) (by decide)) (y_val rfl) (bd_mul bc' bt) bt (by decide) (by decide) (by decide))) ya_nil)))) fun u8 H8 s8 p8 => ?_
  have s18 := s17.trans s8
  refine s_ret (YO.y (yo_cat (y_var rfl (Mono.mono s8 p7)) (y_call (_, [1, CB.maxL c.demands]) ⟨rfl, rfl, lowest_bd (bd_up (bd_mul (bd_mul bc bq) ba) (by decide)) (bd_up b2 (by decide)), ?_⟩ (ya_cons (y_var rfl p8) (ya_cons (y_list2 y_c (y_val rfl)) ya_nil))) ?_)) fun u9 H9 s9 p9 => q u9 H9 (s18.trans s9) p9
  · intro x hx
    refine bd_up (a := 11) ?_ (by decide)
    show _ < 2048
    rcases List.mem_cons.mp hx with h | h
    · omega
    · rw [List.mem_singleton] at h
      omega
  · show 2 + (CB.smallerM _ _).length ≤ _
    unfold CB.smallerM
    split
    · show 2 + 2 ≤ 100000; decide
    · show 2 + 2 ≤ 100000; decide
theorem sc_saturation_of : FnScope ["cycle"] ["cycle"] (defScope (top 36)) := ⟨rfl, rfl, rfl, by decide +kernel, rfl, by decide +kernel, by decide +kernel⟩
theorem d_saturation_of (T : Txt K mg CI CC CS CP) (D_lowest : Dk P w K mg base 2 "lowest" ["numerator", "denominator"] SpLow) : Dk P w K mg base 3 "saturation_of" ["cycle"] (SpCyc CC CB.satM) := by
  refine T.d_saturation_of.ok (N := ["cycle"]) sc_saturation_of (fun a vs H h => len1 h) ?_
  intro f cdv A outer s H vs E c hr ok ⟨v, r, e1, hv, e2⟩
  subst e1 e2
  have hm := ok.max
  have bg : (CB.maxL c.demands).natAbs < 2 ^ 10 := by show _ < 1024; omega
  refine ⟨_, (pss_one (ps_ret (D_lowest.call hr (by decide) (by rfl) (pa_cons (pe_op op_add (pe_callB (cr_sum rfl) (by rfl) T.b_sum PyProof.Rows.boot_sum (pa_cons (pe_fld (pv 0) rfl) pa_nil)) (pe_fld (pv 0) rfl)) (pa_cons (pe_callB (cr_max rfl) (by rfl) T.b_max PyProof.Rows.boot_max (pa_cons (pe_fld (pv 0) rfl) pa_nil)) pa_nil))))), fun Q q => ?_⟩
  exact s_ret (YO.y (y_callO (_, _) ⟨by show CB.maxL c.demands ≠ 0; omega, bd_up bg (by decide)⟩ (ya_cons (y_I0 (y_sum (ya_cons (y_demands T (y_var rfl hv)) ya_nil)) (y_think T (y_var rfl hv))) (ya_cons (y_most ok (ya_cons (y_demands T (y_var rfl hv)) ya_nil)) ya_nil)))) q
abbrev SpExact (CC : Addr) : Sp := SpF (fun a => OkCyc a.1 ∧ 0 ≤ a.2 ∧ a.2 ≤ 40) (fun (a : CB.MC × Int) => AC (IsCy CC a.1) (AC (IsN a.2) AN)) (fun a => IsL (IsL RN) (CB.exactM a.1 a.2.toNat))
theorem sc_exact_throughputs : FnScope ["cycle", "most", "found", "whole", "lengths", "customers", "stays", "demand", "length", "round_trip", "stay"] ["cycle", "most"] (defScope (top 35)) := ⟨rfl, rfl, rfl, by decide +kernel, rfl, by decide +kernel, by decide +kernel⟩
theorem d_exact_throughputs (T : Txt K mg CI CC CS CP) (D_lowest : Dk P w K mg base 2 "lowest" ["numerator", "denominator"] SpLow) : Dk P w K mg base 3 "exact_throughputs" ["cycle", "most"] (SpExact CC) := by
  refine T.d_exact_throughputs.ok (N := ["cycle", "most", "found", "whole", "lengths", "customers", "stays", "demand", "length", "round_trip", "stay"]) sc_exact_throughputs (fun a vs H h => len2 h) ?_
  intro f cdv A outer s H vs E ⟨c, most⟩ hr ⟨ok, m0, m1⟩ ⟨v, r, e1, hv, v2, r2, e2, hv2, e3⟩
  subst e1 e2 e3
  cases hv2
  dsimp only at ok m0 m1 hv
  refine ⟨_, (pss_cons (ps_set (i := 2) sc_exact_throughputs.nd rfl (.inl rfl) (pe_lst (pa_cons (D_lowest.call hr (by decide) (by rfl) (pa_cons pe_int (pa_cons pe_int pa_nil))) pa_nil))) (pss_cons (ps_set (i := 3) sc_exact_throughputs.nd rfl (.inr rfl) pe_int) (pss_cons (ps_set (i := 4) sc_exact_throughputs.nd rfl (.inl rfl) (pe_op op_rep (pe_lst (pa_cons pe_int pa_nil)) (pe_callB call_len_seq (by rfl) T.b_len PySem.boot_len (pa_cons (pe_fld (pv 0) rfl) pa_nil)))) (pss_cons (ps_for PassesOwn.never rfl (pi_range2 (by rfl) T.b_range (pa_cons pe_int (pa_cons (pe_op op_add (pv 1) pe_int) pa_nil))) (pg_name (i := 5) sc_exact_throughputs.nd rfl (.inr rfl)) (pss_cons (ps_setLc (i := 6) (own := [("demand", 7), ("length", 8)]) (g := (gTup K 2 (gCons (gName 7) (gCons (gName 8) gNil)))) (tt := tYes) rfl sc_exact_throughputs.nd rfl rfl (sw_true rfl rfl rfl (by decide +kernel)) (pi_zip (by rfl) T.b_zip (pa_cons (pe_fld (pv 0) rfl) (pa_cons (pv 4) pa_nil))) (blkOk_by (own := [("demand", 7), ("length", 8)]) (N := ["cycle", "most", "found", "whole", "lengths", "customers", "stays", "demand", "length", "round_trip", "stay"]) (sc := defScope (top 35)) (by decide +kernel)) (fun _ _ _ _ _ => (pg_tup (by rfl) (pgs_cons (pg_name (i := 7) sc_exact_throughputs.nd rfl (.inl rfl)) (pgs_cons (pg_name (i := 8) sc_exact_throughputs.nd rfl (.inl rfl)) pgs_nil)))) (fun _ _ _ _ _ => pts_nil) (fun _ _ _ _ _ => (pe_op op_mulW (pv 7) (pe_op op_add (pv 3) (pv 8))))) (pss_cons (ps_set (i := 9) sc_exact_throughputs.nd rfl (.inl rfl) (pe_op op_add (pe_op op_mulW (pe_fld (pv 0) rfl) (pv 3)) (pe_callB (cr_sum rfl) (by rfl) T.b_sum PyProof.Rows.boot_sum (pa_cons (pv 6) pa_nil)))) (pss_cons (ps_expr (pe_bm PySem.F.plainAttrs_list PySem.F.slot_list_append PySem.F.type_list_append mt_append (pv 2) (pa_cons (D_lowest.call hr (by decide) (by rfl) (pa_cons (pe_op op_mulW (pv 5) (pv 3)) (pa_cons (pv 9) pa_nil))) pa_nil))) (pss_cons (ps_setLc (i := 4) (own := [("stay", 10)]) (g := (gName 10)) (tt := tYes) rfl sc_exact_throughputs.nd rfl rfl (sw_true rfl rfl rfl (by decide +kernel)) (pi_list (pv 6)) (blkOk_by (own := [("stay", 10)]) (N := ["cycle", "most", "found", "whole", "lengths", "customers", "stays", "demand", "length", "round_trip", "stay"]) (sc := defScope (top 35)) (by decide +kernel)) (fun _ _ _ _ _ => (pg_name (i := 10) sc_exact_throughputs.nd rfl (.inl rfl))) (fun _ _ _ _ _ => pts_nil) (fun _ _ _ _ _ => (pe_op op_mulW (pv 5) (pv 10)))) (pss_one (ps_set (i := 3) sc_exact_throughputs.nd rfl (.inr rfl) (pv 9)))))))) (pss_one (ps_ret (pv 2))))))), fun Q q => ?_⟩
  refine s_new1 (P := IsIs (CB.lowest 0 1)) (YO.y (y_callO (0, 1) ⟨by decide, by show (1 : Nat) < _; exact Nat.lt_of_lt_of_le (by decide : 1 < 2 ^ 1) (Nat.pow_le_pow_right (by decide) (by decide))⟩ (ya_cons y_c (ya_cons y_c ya_nil)))) fun u1 H1 d s1 p1 hd => ?_
  have sd : Same H1 (upd H1 d (.lst [u1])) := Same.new hd
  have h1d : H d = none := by
    cases e : H d with
    | none => rfl
    | some o =>
      rw [s1 _ _ e] at hd
      cases hd
  refine s_set y_c fun u2 H2 s2 p2 => ?_
  cases p2
  refine s_set (YO.y (yo_rep (n := 0) (y_list1 y_c) (y_len (ya_cons (y_demands T (y_var rfl (Mono.mono ((s1.trans sd).trans s2) hv))) ya_nil)) (by omega) (by have := ok.few; omega))) fun u3 H3 s3 p3 => s_seq ?_
  have s3' : Same H H3 := ((s1.trans sd).trans s2).trans s3
  have hd3 : H3 d = some (.lst [u1]) := s3 _ _ (s2 _ _ upd_same)
  refine s_forR2 (m := 1) (n := most + 1) (by decide) (by decide) (by omega) (by omega) (ya_cons y_c (ya_cons (y_I0 (y_val rfl) y_c) ya_nil)) (fun k σ' H' => ∃ vl z5 z6 z7 z8 z9 z10 vs, σ' = [some v, some (.int most), some (.ref d), some (.int (CB.exM c k).1), some vl, z5, z6, z7, z8, z9, z10] ∧ H' d = some (.lst vs) ∧ Each (IsL RN) (CB.exM c k).2.2 vs H' ∧ (∀ y ∈ vs, y ≠ .ref d) ∧ IsIs (CB.exM c k).2.1 vl H' ∧ Same H H')
    (fun H4 s4 => ⟨u3, none, none, none, none, none, none, [u1], rfl, s4 _ _ hd3, ⟨Mono.mono (((sd.trans s2).trans s3).trans s4) p1, trivial⟩, fun y hy => by rw [List.mem_singleton.mp hy]; exact isIs_ne p1 hd, by
      have : ((c.demands.length : Int)).toNat = c.demands.length := by omega
      rw [this] at p3
      exact Mono.mono s4 p3, s3'.trans s4⟩) ?_ ?_
  · rintro k hk σ' H' ⟨vl, z5, z6, z7, z8, z9, z10, vs, rfl, g1, g2, g3, g4, g5⟩
    have hk' : k ≤ 39 := by omega
    have eb := exB ok k (by omega)
    obtain ⟨r1, r2⟩ := round_ok ok eb
    obtain ⟨t1, t2⟩ := stays_ok ok eb
    have hlen := exM_len c k
    have e1 : (1 : Int) + (k : Int) = ((k + 1 : Nat) : Int) := by omega
    rw [e1]
    have bk1 : (((k + 1 : Nat) : Int)).natAbs < 2 ^ 6 := by show _ < 64; omega
    dsimp only [List.set]
    refine s_setO (yo_zip (K := K) (T := RN) (f := fun (x y : Int) => x * ((CB.exM c k).1 + y)) (by have := ok.few; omega) hlen.symm (yi_zip hlen.symm (ya_cons (y_demands T (y_var rfl (Mono.mono g5 hv))) (ya_cons (y_var rfl g4) ya_nil))) (fun _ _ => rfl) fun j x y hx hy _ _ H4 s4 hvx hvy => yo_N (y_mul (a := 10) (b := 17 * k + 2) (y_var rfl hvx) (y_I0 (y_val rfl) (y_var rfl hvy)) (by have := ok.d x (List.mem_of_getElem? hx); show _ < 1024; omega) (bd_add eb.w1 (eb.l1.at hy)) (by decide) (by omega) (by omega))) fun u4 H4 s4 p4 o4 => ?_
    have p4' : IsIs (CB.stays c (CB.exM c k).1 (CB.exM c k).2.1) u4 H4 := p4
    refine s_set (y_I0 (y_mul (a := 14) (y_think T (y_var rfl (Mono.mono (g5.trans s4) hv))) (y_val rfl) (by show _ < 16384; have := ok.t0; have := ok.t1; omega) eb.w1 (by decide) (by omega) (by omega)) (y_sum (ya_cons (y_var rfl p4') ya_nil))) fun u5 H5 s5 p5 => s_seq ?_
    cases p5
    have hvl : vs.length = k + 1 := by rw [g2.length, exM_found]
    refine s_appendO (y_val rfl) (s5 _ _ (s4 _ _ g1)) (by omega) (y_callO (((k + 1 : Nat) : Int) * (CB.exM c k).1, c.think * (CB.exM c k).1 + (CB.stays c (CB.exM c k).1 (CB.exM c k).2.1).sum) ⟨by show _ + _ ≠ (0 : Int); omega, bd_up r2 (by omega)⟩ (ya_cons (y_mul (y_val rfl) (y_val rfl) bk1 eb.w1 (by decide) (by omega) (by omega)) (ya_cons (y_val rfl) ya_nil))) fun u6 H6 s6 p6 n6 hd6 => ?_
    have s56 : Same H' H6 := (s4.trans s5).trans s6
    have hu4 : u4 ≠ .ref d := o4 d _ g1
    dsimp only
    have p4'' : IsIs (CB.stays c (CB.exM c k).1 (CB.exM c k).2.1) u4 (upd H6 d (.lst (vs ++ [u6]))) := (inferInstance : Sh (IsIs (CB.stays c (CB.exM c k).1 (CB.exM c k).2.1))).sh (Mono.mono (s5.trans s6) p4') hu4
    refine s_setO (yo_lc_map (f := fun (x : Int) => ((k + 1 : Nat) : Int) * x) (T := RN) (by rw [show (CB.stays c (CB.exM c k).1 (CB.exM c k).2.1).length = c.demands.length from by unfold CB.stays; rw [List.length_zipWith, hlen, Nat.min_self]]; have := ok.few; omega) (y_var rfl p4'') (fun _ => rfl) fun x hx y H7 s7 hy => yo_N (y_mul (y_val rfl) (y_var rfl hy) bk1 (t2 x hx) (by decide) (by omega) (by omega))) fun u7 H7 s7 p7 o7 => ?_
    refine s_set1 (y_val rfl) fun u8 H8 s8 p8 => ?_
    cases p8
    refine ⟨u7, _, _, _, _, _, _, vs ++ [u6], rfl, s8 _ _ (s7 _ _ upd_same), ?_, ?_, Mono.mono s8 p7, ((Same.mut (g5.trans s56) h1d).trans s7).trans s8⟩
    · refine Each.mono (s7.trans s8) ?_
      refine Each.snoc ((inferInstance : Sh (IsIs _)).sh p6 n6) (each_sh (Each.mono s56 g2) g3)
    · intro y hy
      rcases List.mem_append.mp hy with h | h
      · exact g3 y h
      · rw [List.mem_singleton.mp h]
        exact n6
  · rintro σ' H' ⟨vl, z5, z6, z7, z8, z9, z10, vs, rfl, g1, g2, g3, g4, g5⟩
    have e : (most + 1 - 1).toNat = most.toNat := by omega
    rw [e] at g2
    dsimp only
    exact s_ret (y_var rfl ⟨d, vs, rfl, g1, g2⟩) fun u9 H9 s9 p9 => q u9 H9 (g5.trans s9) p9
end
end WK

/- WkS1 -/
/-! Systems: the size of their numbers, and their methods. -/
namespace WK
open PySem PySem.Spec PyProof.Rows L2
/-- so many bits behind so many equations -/
def bits : Nat → Nat
  | 0 => 1
  | k + 1 => 2 * bits k + 19
theorem bits_mono (k : Nat) : bits k ≤ bits (k + 1) := by
  show _ ≤ 2 * bits k + 19
  omega
theorem bits_le : ∀ {j k : Nat}, j ≤ k → bits j ≤ bits k := by
  intro j k h
  induction h with
  | refl => exact Nat.le_refl _
  | step _ ih => exact Nat.le_trans ih (bits_mono _)
theorem bits_6 {k : Nat} (h : k ≤ 6) : bits k ≤ 1261 := Nat.le_trans (bits_le h) (by decide)
theorem bits_pos (k : Nat) : 0 < bits k := Nat.lt_of_lt_of_le (by decide : 0 < bits 0) (bits_le (Nat.zero_le k))
structure SyOk (w : Nat) (E : List (List Int)) (S : CB.MS) : Prop where
  R : CB.Rep w E S
  pb : S.pivot.natAbs < 2 ^ bits E.length
  rb : ∀ r ∈ S.rows, BdL (bits E.length) r
theorem SyOk.empty (w : Nat) : SyOk w [] CB.MS.empty := ⟨CB.rep_empty w, by show (1 : Int).natAbs < 2 ^ 1; decide, fun r hr => absurd hr List.not_mem_nil⟩
section
variable {w : Nat} {E : List (List Int)} {S : CB.MS} {e : List Int}
/-- what is left behind k rows -/
def restK (S : CB.MS) (e : List Int) (k : Nat) : List Int := ((S.cols.zip S.rows).take k).foldl (CB.takeOut e) (e.map fun a => S.pivot * a)
theorem restK_all (R : CB.Rep w E S) : restK S e S.cols.length = S.reduced e := by
  unfold restK
  rw [List.take_of_length_le (by rw [List.length_zip, R.same, Nat.min_self]; exact Nat.le_refl _)]
  rfl
theorem zip_at {α β : Type} {a : List α} {b : List β} {k : Nat} {x : α} {y : β} (h1 : a[k]? = some x) (h2 : b[k]? = some y) : (a.zip b)[k]? = some (x, y) := by
  rw [List.getElem?_zip_eq_some]
  exact ⟨h1, h2⟩
theorem restK_succ {k c : Nat} {row : List Int} (h1 : S.cols[k]? = some c) (h2 : S.rows[k]? = some row) : restK S e (k + 1) = CB.takeOut e (restK S e k) (c, row) := foldl_take_snoc _ _ (zip_at h1 h2)
theorem restK_ok (o : SyOk w E S) (he : e.length = w) (be : BdL 11 e) : ∀ k, k ≤ S.cols.length → (restK S e k).length = w ∧ BdL (bits E.length + 12 + k) (restK S e k)
  | 0, _ => ⟨by show (e.map _).length = w; rw [List.length_map, he], fun x hx => by
    obtain ⟨y, hy, rfl⟩ := List.mem_map.mp hx
    exact bd_up (bd_mul o.pb (be y hy)) (by omega)⟩
  | k + 1, hk => by
    obtain ⟨l, b⟩ := restK_ok o he be k (by omega)
    have h1 := List.getElem?_eq_getElem (l := S.cols) (i := k) (by omega)
    have h2 := List.getElem?_eq_getElem (l := S.rows) (i := k) (by have := o.R.same; omega)
    rw [restK_succ h1 h2]
    have hr : S.rows[k]'(by have := o.R.same; omega) ∈ S.rows := List.getElem_mem _
    unfold CB.takeOut
    split
    · unfold CB.minus
      refine ⟨by rw [List.length_zipWith, l, o.R.lengths _ hr, Nat.min_self], fun x hx => ?_⟩
      obtain ⟨u, v, hu, hv, rfl⟩ := mem_zipWith hx
      exact bd_up (bd_sub (b u hu) (bd_up (bd_mul (be.get _) (o.rb _ hr v hv)) (by omega : 11 + bits E.length ≤ bits E.length + 12 + k))) (by omega)
    · exact ⟨l, b.mono (by omega)⟩
theorem reduced_ok (o : SyOk w E S) (he : e.length = w) (be : BdL 11 e) (hE : E.length ≤ 6) : (S.reduced e).length = w ∧ BdL (bits E.length + 18) (S.reduced e) := by
  have := restK_ok o he be S.cols.length (Nat.le_refl _)
  rw [restK_all o.R] at this
  refine ⟨this.1, this.2.mono ?_⟩
  have := o.R.count
  omega
theorem cleared_bd {row rest : List Int} {c b : Nat} (hp : S.pivot ≠ 0) (h1 : BdL b row) (h2 : BdL (b + 18) rest) : BdL (2 * b + 19) (S.cleared row rest c) := fun x hx => by
  unfold CB.MS.cleared at hx
  obtain ⟨u, v, hu, hv, rfl⟩ := mem_zipWith hx
  refine Nat.lt_of_le_of_lt (Int.natAbs_fdiv_le_natAbs _ _) ?_
  exact bd_up (bd_sub (a := 2 * b + 18) (bd_up (bd_mul (h2.get c) (h1 u hu)) (by omega)) (bd_up (bd_mul (h1.get c) (h2 v hv)) (by omega))) (by omega)
theorem SyOk.wider (o : SyOk w E S) (he : e.length = w) (be : BdL 11 e) (hE : E.length ≤ 5) {S' : CB.MS} (h : S.wider e = some S') : SyOk w (e :: E) S' := by
  obtain ⟨l, b⟩ := reduced_ok o he be (by omega)
  refine ⟨o.R.wider he h, ?_, ?_⟩
  all_goals
    unfold CB.MS.wider at h
    obtain ⟨c, hc, rfl⟩ := Option.map_eq_some_iff.mp h
    have h3 : bits E.length + 18 ≤ bits (e :: E).length := by
      show _ ≤ 2 * bits E.length + 19
      omega
  · exact bd_up (b.get c) h3
  · intro r hr
    rcases List.mem_append.mp hr with hr | hr
    · obtain ⟨row, hrow, rfl⟩ := List.mem_map.mp hr
      exact cleared_bd o.R.nz (o.rb _ hrow) b
    · rw [List.mem_singleton.mp hr]
      exact b.mono h3
end
/-- None, or a number -/
def oN : Option Nat → V
  | none => .non
  | some n => .int (n : Int)
theorem findIdx_drop (ns : List Int) (k : Nat) (h : ∀ j, j < k → ns.getD j 0 = 0) : k < ns.length → ns.getD k 0 ≠ 0 → CB.firstFilled ns = some k := by
  intro hk hn
  unfold CB.firstFilled
  rw [List.findIdx?_eq_some_iff_getElem]
  refine ⟨hk, ?_, fun j hj => ?_⟩
  · rw [List.getD_eq_getElem?_getD, List.getElem?_eq_getElem hk] at hn
    simpa using hn
  · have := h j hj
    rw [List.getD_eq_getElem?_getD, List.getElem?_eq_getElem (by omega)] at this
    simpa using this
theorem findIdx_none (ns : List Int) (h : ∀ j, j < ns.length → ns.getD j 0 = 0) : CB.firstFilled ns = none := by
  unfold CB.firstFilled
  rw [List.findIdx?_eq_none_iff]
  intro x hx
  obtain ⟨j, hj, rfl⟩ := List.getElem_of_mem hx
  have := h j hj
  rw [List.getD_eq_getElem?_getD, List.getElem?_eq_getElem hj] at this
  simpa using this
theorem atN {xs : List Int} {i : Nat} (h : i < xs.length) : atI xs (i : Int) = some (xs.getD i 0) := by
  have : xs[i]? = some (xs.getD i 0) := by
    rw [List.getD_eq_getElem?_getD, List.getElem?_eq_getElem h]
    rfl
  exact atI_nat this
section
variable {P : Program} {w : World} {K : PySem.W.Frag} {mg : Str → Option Value} {base : Heap} {CI CC CS CP : Addr}
abbrev SpFF : Sp := SpF (fun (a : List Int) => a.length ≤ 100000) (fun a => AC (IsIs a) AN) (fun a => IsV (oN (CB.firstFilled a)))
theorem sc_first_filled : FnScope ["numbers", "place", "number"] ["numbers"] (defScope (top 38)) := ⟨rfl, rfl, rfl, by decide +kernel, rfl, by decide +kernel, by decide +kernel⟩
theorem d_first_filled (T : Txt K mg CI CC CS CP) : Dk P w K mg base 1 "first_filled" ["numbers"] SpFF := by
  refine T.d_first_filled.ok (N := ["numbers", "place", "number"]) sc_first_filled (fun a vs H h => len1 h) ?_
  intro f cdv A outer s H vs E a hr hl ⟨v, r, e1, hv, e2⟩
  subst e1 e2
  refine ⟨_, (pss_cons (ps_for PassesOwn.never rfl (pi_enum (by rfl) T.b_enumerate (pa_cons (pv 0) pa_nil)) (pg_tup (by rfl) (pgs_cons (pg_name (i := 1) sc_first_filled.nd rfl (.inl rfl)) (pgs_cons (pg_name (i := 2) sc_first_filled.nd rfl (.inl rfl)) pgs_nil))) (pss_one (ps_if (pt_cmpR op_ne (pv 2) pe_int (nomark _)) (pss_one (ps_ret (pv 1))) pss_nil))) (pss_one (ps_ret pe_non))), fun Q q => ?_⟩
  refine s_seq ?_
  refine s_for (yi_enum (ya_cons (y_var rfl hv) ya_nil)) (fun k σ' H' => (∃ z1 z2, σ' = [some v, z1, z2]) ∧ ∀ j, j < k → a.getD j 0 = 0) (fun H1 s1 => ⟨⟨none, none, rfl⟩, fun j hj => absurd hj (Nat.not_lt_zero _)⟩) ?_ ?_
  · rintro k hk H1 s1 σ' H2 s2 ⟨⟨z1, z2, rfl⟩, hz⟩ x H3 s3 ⟨P, y, n, rfl, e2, h1, h2⟩
    cases h2
    refine ⟨P, _, rfl, SqT.of e2, rfl, _, _, rfl, _, _, rfl, rfl, ?_⟩
    have hn : a.getD k 0 = n := by
      rw [List.getD_eq_getElem?_getD, h1]
      rfl
    refine s_if1 (yt_test (y_neI (y_val rfl) y_c)) (fun h H6 s6 => s_ret (y_val rfl) fun u7 H7 s7 p7 => q u7 H7 ((((s1.trans s2).trans s3).trans s6).trans s7) ?_) fun h H6 s6 => ⟨⟨⟨_, _, rfl⟩, fun j hj => ?_⟩, (s2.trans s3).trans s6⟩
    · have : n ≠ 0 := by simpa using h
      rw [findIdx_drop a k hz hk (by rw [hn]; exact this)]
      exact p7
    · have : n = 0 := by simpa using h
      rcases Nat.lt_or_ge j k with c | c
      · exact hz j c
      · have : j = k := by omega
        rw [this, hn]
        assumption
  · rintro σ' H1 s1 ⟨⟨z1, z2, rfl⟩, hz⟩
    dsimp only
    refine s_ret y_c fun u7 H7 s7 p7 => q u7 H7 (s1.trans s7) ?_
    rw [findIdx_none a hz]
    exact p7
/-- a system, an equation -/
structure RedOk (w : Nat) (E : List (List Int)) (S : CB.MS) (e : List Int) : Prop where
  o : SyOk w E S
  le : e.length = w
  be : BdL 11 e
  hE : E.length ≤ 5
  hw : w ≤ 7
abbrev SpRed (CS : Addr) : Sp := SpF (fun a => ∃ w E, RedOk w E a.1 a.2) (fun (a : CB.MS × List Int) => AC (IsSy CS a.1) (AC (IsIs a.2) AN)) (fun a => IsIs (a.1.reduced a.2))
theorem sc_System_reduced : FnScope ["self", "equation", "rest", "number", "column", "row", "factor", "a", "b"] ["self", "equation"] (defScope (inClass (top 39) 1)) := ⟨rfl, rfl, rfl, by decide +kernel, rfl, by decide +kernel, by decide +kernel⟩
theorem m_System_reduced (T : Txt K mg CI CC CS CP) : Dm P w K mg base 1 CS "reduced" ["self", "equation"] (SpRed CS) := by
  refine T.m_System_reduced.ok (N := ["self", "equation", "rest", "number", "column", "row", "factor", "a", "b"]) sc_System_reduced (fun a vs H h => len2 h) ?_
  intro f cdv A outer s H vs E ⟨S, e⟩ hr ⟨W, EE, o, le, be, hE, hw⟩ ⟨v, r, e1, hv, v2, r2, e2, hv2, e3⟩
  subst e1 e2 e3
  dsimp only at o le be hv hv2
  refine ⟨_, (pss_cons (ps_setLc (i := 2) (own := [("number", 3)]) (g := (gName 3)) (tt := tYes) rfl sc_System_reduced.nd rfl rfl (sw_true rfl rfl rfl (by decide +kernel)) (pi_list (pv 1)) (blkOk_by (own := [("number", 3)]) (N := ["self", "equation", "rest", "number", "column", "row", "factor", "a", "b"]) (sc := defScope (inClass (top 39) 1)) (by decide +kernel)) (fun _ _ _ _ _ => (pg_name (i := 3) sc_System_reduced.nd rfl (.inl rfl))) (fun _ _ _ _ _ => pts_nil) (fun _ _ _ _ _ => (pe_op op_mulW (pe_fldK (K := K) rfl (pv 0) rfl) (pv 3)))) (pss_cons (ps_for PassesOwn.never rfl (pi_zip (by rfl) T.b_zip (pa_cons (pe_fld (pv 0) rfl) (pa_cons (pe_fld (pv 0) rfl) pa_nil))) (pg_tup (by rfl) (pgs_cons (pg_name (i := 4) sc_System_reduced.nd rfl (.inl rfl)) (pgs_cons (pg_name (i := 5) sc_System_reduced.nd rfl (.inl rfl)) pgs_nil))) (pss_cons (ps_set (i := 6) sc_System_reduced.nd rfl (.inr rfl) (pe_ix ix_list (pv 1) (pv 4) (fun _ _ => rfl))) (pss_one (ps_if (pt_cmpR op_ne (pv 6) pe_int (nomark _)) (pss_one (ps_setLc (i := 2) (own := [("a", 7), ("b", 8)]) (g := (gTup K 2 (gCons (gName 7) (gCons (gName 8) gNil)))) (tt := tYes) rfl sc_System_reduced.nd rfl rfl (sw_true rfl rfl rfl (by decide +kernel)) (pi_zip (by rfl) T.b_zip (pa_cons (pv 2) (pa_cons (pv 5) pa_nil))) (blkOk_by (own := [("a", 7), ("b", 8)]) (N := ["self", "equation", "rest", "number", "column", "row", "factor", "a", "b"]) (sc := defScope (inClass (top 39) 1)) (by decide +kernel)) (fun _ _ _ _ _ => (pg_tup (by rfl) (pgs_cons (pg_name (i := 7) sc_System_reduced.nd rfl (.inl rfl)) (pgs_cons (pg_name (i := 8) sc_System_reduced.nd rfl (.inl rfl)) pgs_nil)))) (fun _ _ _ _ _ => pts_nil) (fun _ _ _ _ _ => (pe_op op_sub (pv 7) (pe_op op_mulW (pv 6) (pv 8)))))) pss_nil)))) (pss_one (ps_ret (pv 2))))), fun Q q => ?_⟩
  have hbits := bits_6 (show EE.length ≤ 6 by omega)
  have hbp := bits_pos EE.length
  have hcnt := o.R.count
  refine s_set (y_map (T := RN) (f := fun (a : Int) => S.pivot * a) (by omega) (y_var rfl hv2) (fun _ => rfl) fun n hn x H3 s3 hx => yo_N (y_mul (y_pivot T (y_var rfl (Mono.mono s3 hv))) (y_var rfl hx) o.pb (be n hn) hbp (by decide) (by omega))) fun u1 H1 s1 p1 => s_seq ?_
  have hcl : (S.cols.map fun (n : Nat) => (n : Int)).length = S.rows.length := by rw [List.length_map, o.R.same]
  refine s_for (yi_zip hcl (ya_cons (y_columns T (y_var rfl (Mono.mono s1 hv))) (ya_cons (y_srows T (y_var rfl (Mono.mono s1 hv))) ya_nil))) (fun k σ' H' => ∃ rl z3 z4 z5 z6 z7 z8, σ' = [some v, some v2, some rl, z3, z4, z5, z6, z7, z8] ∧ IsIs (restK S e k) rl H') (fun H2 s2 => ⟨u1, none, none, none, none, none, none, rfl, Mono.mono s2 p1⟩) ?_ ?_
  · rintro k hk H2 s2 σ' H3 s3 ⟨rl, z3, z4, z5, z6, z7, z8, rfl, hrl⟩ x H4 s4 ⟨Pp, x1, x2, ci, row, rfl, e2, h1, h2, h3, h4⟩
    cases h2
    rw [List.getElem?_map] at h1
    obtain ⟨c, hc, rfl⟩ := Option.map_eq_some_iff.mp h1
    refine ⟨Pp, _, rfl, SqT.of e2, rfl, _, _, rfl, _, _, rfl, rfl, ?_⟩
    have hkc : k < S.cols.length := (List.getElem?_eq_some_iff.mp hc).1
    obtain ⟨rk1, rk2⟩ := restK_ok o le be k (by omega)
    have hcw := o.R.low c (List.mem_of_getElem? hc)
    have hrm := List.mem_of_getElem? h3
    have hrow := o.R.lengths row hrm
    refine s_set (y_ixI (y_var rfl (Mono.mono (((s1.trans s2).trans s3).trans s4) hv2)) (y_val rfl) (atN (by omega))) fun u5 H5 s5 p5 => ?_
    cases p5
    have hsucc : restK S e (k + 1) = CB.takeOut e (restK S e k) (c, row) := restK_succ hc h3
    have hll : (restK S e k).length = row.length := by rw [rk1, hrow]
    refine s_if1 (yt_test (y_neI (y_val rfl) y_c)) (fun h H6 s6 => s_set1 (YO.y (yo_zip (K := K) (T := RN) (f := fun (a b : Int) => a - e.getD c 0 * b) (by omega) hll (yi_zip hll (ya_cons (y_var rfl (Mono.mono ((s4.trans s5).trans s6) hrl)) (ya_cons (y_var rfl (Mono.mono (s5.trans s6) h4)) ya_nil))) (fun _ _ => rfl) fun j x y hx hy _ _ H7 s7 hvx hvy => yo_N (y_I0 (y_var rfl hvx) (y_mul (y_val rfl) (y_var rfl hvy) (be.get c) ((o.rb _ hrm).at hy) (by decide) hbp (by omega))))) fun u7 H7 s7 p7 => ⟨⟨u7, _, _, _, _, _, _, rfl, ?_⟩, (((s3.trans s4).trans s5).trans s6).trans s7⟩) fun h H6 s6 => ⟨⟨rl, _, _, _, _, _, _, rfl, ?_⟩, ((s3.trans s4).trans s5).trans s6⟩
    · rw [hsucc]
      unfold CB.takeOut
      rw [if_pos (by simpa using h)]
      exact p7
    · rw [hsucc]
      unfold CB.takeOut
      rw [if_neg (by simpa using h)]
      exact Mono.mono ((s4.trans s5).trans s6) hrl
  · rintro σ' H2 s2 ⟨rl, z3, z4, z5, z6, z7, z8, rfl, hrl⟩
    rw [List.length_map, restK_all o.R] at hrl
    dsimp only
    exact s_ret (y_var rfl hrl) fun u7 H7 s7 p7 => q u7 H7 ((s1.trans s2).trans s7) p7
end
end WK

/- WkS2 -/
/-! Systems: cleared, with_equation, solution. -/
namespace WK
open PySem PySem.Spec PyProof.Rows L2
section
variable {σ : L2.St} {H : Hp} {te ta tb tc tl : TE} {A : List V → Hp → Prop} {K : PySem.W.Frag} {D : Ends} {CS : Addr} {S : CB.MS}
/-- a method of a system -/
theorem y_methS {α : Type} {Pre : α → Prop} {In : α → List V → Hp → Prop} {Out : α → V → Hp → Prop} {E : XK} {m : Str} {ta : TA} (x : α) (hp : Pre x) (ho : Y te σ H (IsSy CS S)) (hf : ∀ c r : V, ([("pivot", V.int S.pivot), ("columns", c), ("rows", r)] : List (Str × V)).lookup m = none)
    (h : YA ta σ H A) (hin : ∀ v vs H', IsSy CS S v H' → A vs H' → In x (v :: vs) H') : Y (tMeth CS m (SpF Pre In Out) [] E te ta) σ H (Out x) := fun H1 e Q q =>
  ho H1 e _ fun u H2 e2 hu => by
    have hu' := hu
    obtain ⟨a, dx, c, r, rfl, h2, h3, h4⟩ := hu'
    refine ⟨a, dx, _, rfl, h2, hf c r, ?_⟩
    refine h H2 (e.trans e2) _ fun vs H3 e3 i => ⟨x, hp, ?_, fun v H4 e4 o => q v H4 ((e2.trans e3).trans e4) o⟩
    rw [List.append_nil]
    exact hin _ vs H3 (Mono.mono e3 hu) i
theorem y_methSO {α : Type} {Pre : α → Prop} {In : α → List V → Hp → Prop} {Out : α → V → Hp → Prop} {E : XK} {m : Str} {ta : TA} (x : α) (hp : Pre x) (ho : Y te σ H (IsSy CS S)) (hf : ∀ c r : V, ([("pivot", V.int S.pivot), ("columns", c), ("rows", r)] : List (Str × V)).lookup m = none)
    (h : YA ta σ H A) (hin : ∀ v vs H', IsSy CS S v H' → A vs H' → In x (v :: vs) H') : YO (tMeth CS m (SpO Pre In Out) [] E te ta) σ H (Out x) := fun H1 e Q q =>
  ho H1 e _ fun u H2 e2 hu => by
    have hu' := hu
    obtain ⟨a, dx, c, r, rfl, h2, h3, h4⟩ := hu'
    refine ⟨a, dx, _, rfl, h2, hf c r, ?_⟩
    refine h H2 (e.trans e2) _ fun vs H3 e3 i => ⟨x, hp, ?_, fun v H4 e4 o f => q v H4 ((e2.trans e3).trans e4) o (off_back (e2.trans e3) f)⟩
    rw [List.append_nil]
    exact hin _ vs H3 (Mono.mono e3 hu) i
end
/-- None, or a system -/
def OutW (CS : Addr) : Option CB.MS → V → Hp → Prop
  | none => IsV .non
  | some S => IsSy CS S
section
variable {P : Program} {w : World} {K : PySem.W.Frag} {mg : Str → Option Value} {base : Heap} {CI CC CS CP : Addr}
structure ClOk (S : CB.MS) (row rest : List Int) (c : Nat) : Prop where
  nz : S.pivot ≠ 0
  pb : S.pivot.natAbs < 2 ^ 3000
  l : row.length = rest.length
  c : c < row.length
  few : row.length ≤ 1000
  b1 : BdL 3000 row
  b2 : BdL 3000 rest
abbrev SpCle (CS : Addr) : Sp := SpO (fun a => ClOk a.1 a.2.1 a.2.2.1 a.2.2.2) (fun (a : CB.MS × List Int × List Int × Nat) => AC (IsSy CS a.1) (AC (IsIs a.2.1) (AC (IsIs a.2.2.1) (AC (IsN (a.2.2.2 : Int)) AN)))) (fun a => IsIs (a.1.cleared a.2.1 a.2.2.1 a.2.2.2))
theorem sc_System_cleared : FnScope ["self", "row", "rest", "column", "pivot", "factor", "a", "b"] ["self", "row", "rest", "column"] (defScope (inClass (top 39) 2)) := ⟨rfl, rfl, rfl, by decide +kernel, rfl, by decide +kernel, by decide +kernel⟩
theorem m_System_cleared (T : Txt K mg CI CC CS CP) : Dm P w K mg base 1 CS "cleared" ["self", "row", "rest", "column"] (SpCle CS) := by
  refine T.m_System_cleared.okO (N := ["self", "row", "rest", "column", "pivot", "factor", "a", "b"]) sc_System_cleared (fun a vs H h => len4 h) ?_
  intro f cdv A outer s H vs E ⟨S, row, rest, c⟩ hr ⟨nz, pb, l, hc, few, b1, b2⟩ ⟨v, r, e1, hv, v2, r2, e2, hv2, v3, r3, e3, hv3, v4, r4, e4, hv4, e5⟩
  subst e1 e2 e3 e4 e5
  cases hv4
  dsimp only at nz pb l hc few b1 b2 hv hv2 hv3
  refine ⟨_, (pss_cons (ps_set (i := 4) sc_System_cleared.nd rfl (.inr rfl) (pe_ix ix_list (pv 2) (pv 3) (fun _ _ => rfl))) (pss_cons (ps_set (i := 5) sc_System_cleared.nd rfl (.inr rfl) (pe_ix ix_list (pv 1) (pv 3) (fun _ _ => rfl))) (pss_one (ps_ret (pe_lc (own := [("a", 6), ("b", 7)]) (g := (gTup K 2 (gCons (gName 6) (gCons (gName 7) gNil)))) (tt := tYes) rfl sc_System_cleared.nd (pi_zip (by rfl) T.b_zip (pa_cons (pv 1) (pa_cons (pv 2) pa_nil))) (blkOk_by (own := [("a", 6), ("b", 7)]) (N := ["self", "row", "rest", "column", "pivot", "factor", "a", "b"]) (sc := defScope (inClass (top 39) 2)) (by decide +kernel)) (fun _ _ _ _ _ => (pg_tup (by rfl) (pgs_cons (pg_name (i := 6) sc_System_cleared.nd rfl (.inl rfl)) (pgs_cons (pg_name (i := 7) sc_System_cleared.nd rfl (.inl rfl)) pgs_nil)))) (fun _ _ _ _ _ => pts_nil) (fun _ _ _ _ _ => (pe_op op_fdivZ (pe_op op_sub (pe_op op_mulW (pv 4) (pv 6)) (pe_op op_mulW (pv 5) (pv 7))) (pe_fldK (K := K) rfl (pv 0) rfl)))))))), fun Q q => ?_⟩
  refine s_set (y_ixI (y_var rfl hv3) (y_val rfl) (atN (i := c) (by omega))) fun u1 H1 s1 p => ?_
  cases p
  refine s_set (y_ixI (y_var rfl (Mono.mono s1 hv2)) (y_val rfl) (atN (i := c) hc)) fun u2 H2 s2 p => ?_
  cases p
  have s12 := s1.trans s2
  refine s_retO (yo_zip (K := K) (T := RN) (f := fun (a b : Int) => (rest.getD c 0 * a - row.getD c 0 * b).fdiv S.pivot) (by omega) l (yi_zip l (ya_cons (y_var rfl (Mono.mono s12 hv2)) (ya_cons (y_var rfl (Mono.mono s12 hv3)) ya_nil))) (fun _ _ => rfl) fun j x y hx hy _ _ H7 s7 hvx hvy => yo_N (y_fdiv (y_I0 (y_mul (y_val rfl) (y_var rfl hvx) (b2.get c) (b1.at hx) (by decide) (by decide) (by decide)) (y_mul (y_val rfl) (y_var rfl hvy) (b1.get c) (b2.at hy) (by decide) (by decide) (by decide))) (y_pivot T (y_var rfl (Mono.mono (s12.trans s7) hv))) nz pb (by decide) (by decide))) fun v H3 s3 p o => q v H3 (s12.trans s3) p (off_back s12 o)
abbrev SpWith (CS : Addr) : Sp := SpF (fun a => ∃ w E, RedOk w E a.1 a.2) (fun (a : CB.MS × List Int) => AC (IsSy CS a.1) (AC (IsIs a.2) AN)) (fun a => OutW CS (a.1.wider a.2))
theorem wider_none {S : CB.MS} {e : List Int} (h : CB.firstFilled (S.reduced e).dropLast = none) : S.wider e = none := by
  unfold CB.MS.wider
  rw [h]
  rfl
theorem wider_some {S : CB.MS} {e : List Int} {c : Nat} (h : CB.firstFilled (S.reduced e).dropLast = some c) : S.wider e = some ⟨(S.reduced e).getD c 0, S.cols ++ [c], (S.rows.map fun row => S.cleared row (S.reduced e) c) ++ [S.reduced e]⟩ := by
  unfold CB.MS.wider
  rw [h]
  rfl
theorem sc_System_with_equation : FnScope ["self", "equation", "rest", "column", "rows", "row"] ["self", "equation"] (defScope (inClass (top 39) 3)) := ⟨rfl, rfl, rfl, by decide +kernel, rfl, by decide +kernel, by decide +kernel⟩
theorem m_System_with_equation (T : Txt K mg CI CC CS CP) (D_System : Di P w K mg base 1 CS ["self", "pivot", "columns", "rows"] (SpISy CS)) (D_first_filled : Dk P w K mg base 1 "first_filled" ["numbers"] SpFF) (D_System_reduced : Dm P w K mg base 1 CS "reduced" ["self", "equation"] (SpRed CS)) (D_System_cleared : Dm P w K mg base 1 CS "cleared" ["self", "row", "rest", "column"] (SpCle CS)) : Dm P w K mg base 3 CS "with_equation" ["self", "equation"] (SpWith CS) := by
  refine T.m_System_with_equation.ok (N := ["self", "equation", "rest", "column", "rows", "row"]) sc_System_with_equation (fun a vs H h => len2 h) ?_
  intro f cdv A outer s H vs E ⟨S, e⟩ hr ⟨W, EE, ok⟩ ⟨v, r, e1, hv, v2, r2, e2, hv2, e3⟩
  subst e1 e2 e3
  dsimp only at ok hv hv2
  have hE := ok.hE
  have hcnt := ok.o.R.count
  have hW := ok.hw
  obtain ⟨rl, rb⟩ := reduced_ok ok.o ok.le ok.be (by omega)
  have hbits := bits_6 (show EE.length ≤ 6 by omega)
  have rb3 : BdL 3000 (S.reduced e) := rb.mono (by omega)
  refine ⟨_, (pss_cons (ps_set (i := 2) sc_System_with_equation.nd rfl (.inr rfl) (D_System_reduced.call hr (by decide) T.c_System (pv 0) (pa_cons (pv 1) pa_nil))) (pss_cons (ps_set (i := 3) sc_System_with_equation.nd rfl (.inr rfl) (D_first_filled.call hr (by decide) (by rfl) (pa_cons (pe_slice sl_list (pv 2) po_none (po_some (pe_un un_neg pe_int))) pa_nil))) (pss_cons (ps_if (pt_cmp (pc_isN (pv 3))) (pss_one (ps_ret pe_non)) pss_nil) (pss_cons (ps_setLc (i := 4) (own := [("row", 5)]) (g := (gName 5)) (tt := tYes) rfl sc_System_with_equation.nd rfl rfl (sw_true rfl rfl rfl (by decide +kernel)) (pi_list (pe_fld (pv 0) rfl)) (blkOk_by (own := [("row", 5)]) (N := ["self", "equation", "rest", "column", "rows", "row"]) (sc := defScope (inClass (top 39) 3)) (by decide +kernel)) (fun _ _ _ _ _ => (pg_name (i := 5) sc_System_with_equation.nd rfl (.inl rfl))) (fun _ _ _ _ _ => pts_nil) (fun _ _ _ _ _ => (D_System_cleared.call hr (by decide) T.c_System (pv 0) (pa_cons (pv 5) (pa_cons (pv 2) (pa_cons (pv 3) pa_nil)))))) (pss_one (ps_ret (D_System.call hr (by decide) (by rfl) T.g_System (pa_cons (pe_ix ix_list (pv 2) (pv 3) (fun _ _ => rfl)) (pa_cons (pe_op op_cat (pe_fld (pv 0) rfl) (pe_lst (pa_cons (pv 3) pa_nil))) (pa_cons (pe_op op_cat (pv 4) (pe_lst (pa_cons (pv 2) pa_nil))) pa_nil)))))))))), fun Q q => ?_⟩
  refine s_set (y_methS (S, e) ⟨W, EE, ok⟩ (y_var rfl hv) (fun _ _ => rfl) (ya_cons (y_var rfl hv2) ya_nil) fun v vs H' i a => ⟨v, vs, rfl, i, a⟩) fun u1 H1 s1 p1 => ?_
  refine s_set (y_call (S.reduced e).dropLast (by rw [List.length_dropLast]; omega) (ya_cons (Y.toL (YO.y (yo_sl (R := RN) (y_var rfl p1) yp_none (yp_some (y_un y_c)))) (cut_init _)) ya_nil)) fun u2 H2 s2 p2 => ?_
  cases p2
  have s12 := s1.trans s2
  cases hff : CB.firstFilled (S.reduced e).dropLast with
  | none =>
    refine s_if (b := true) (yt_B (y_is (y_isN (y_val rfl)) rfl)) (fun h H3 s3 => s_ret y_c fun u H4 s4 p => q u H4 ((s12.trans s3).trans s4) ?_) (fun h => by cases h)
    show OutW CS (S.wider e) u H4
    rw [wider_none hff]
    exact p
  | some c =>
    have hc : c < (S.reduced e).dropLast.length := by
      unfold CB.firstFilled at hff
      obtain ⟨h, _⟩ := List.findIdx?_eq_some_iff_getElem.mp hff
      exact h
    rw [List.length_dropLast] at hc
    refine s_if (b := false) (yt_B (y_is (y_isN (y_val rfl)) rfl)) (fun h => by cases h) fun h H3 s3 => ?_
    have s13 := s12.trans s3
    refine s_set (y_map (T := IsIs) (f := fun row => S.cleared row (S.reduced e) c) (by have := ok.o.R.same; omega) (y_srows T (y_var rfl (Mono.mono s13 hv))) (fun _ => rfl) fun row hrow x H4 s4 hx => y_methSO (S, row, S.reduced e, c) ⟨ok.o.R.nz, bd_up ok.o.pb (by show bits EE.length ≤ 3000; omega), by rw [ok.o.R.lengths row hrow, rl], by show c < row.length; rw [ok.o.R.lengths row hrow]; omega, by show row.length ≤ 1000; rw [ok.o.R.lengths row hrow]; omega, (ok.o.rb row hrow).mono (by show bits EE.length ≤ 3000; omega), rb3⟩ (y_var rfl (Mono.mono (s13.trans s4) hv)) (fun _ _ => rfl) (ya_cons (y_var rfl hx) (ya_cons (y_var rfl (Mono.mono ((s2.trans s3).trans s4) p1)) (ya_cons (y_val rfl) ya_nil))) fun v vs H' i a => ⟨v, vs, rfl, i, a⟩) fun u4 H4 s4 p4 => ?_
    have s14 := s13.trans s4
    have p1' : IsIs (S.reduced e) u1 H4 := Mono.mono ((s2.trans s3).trans s4) p1
    refine s_ret (YO.y (yo_system ⟨(S.reduced e).getD c 0, S.cols ++ [c], (S.rows.map fun row => S.cleared row (S.reduced e) c) ++ [S.reduced e]⟩ (y_ixI (y_var rfl p1') (y_val rfl) (atN (by omega))) (Y.toL (YO.y (yo_cat (R := RN) (y_columns T (y_var rfl (Mono.mono s14 hv))) (y_list1 (y_val rfl)) (by rw [List.length_map, List.length_singleton]; omega))) (by rw [List.map_append]; rfl)) (YO.y (yo_cat (y_var rfl p4) (YO.y (yo_listR (y_var rfl p1'))) (by rw [List.length_map, List.length_singleton]; have := ok.o.R.same; omega))))) fun u H5 s5 p => q u H5 (s14.trans s5) ?_
    show OutW CS (S.wider e) u H5
    rw [wider_some hff]
    exact p
end
end WK

/- WkS3 -/
/-! Systems: solution. -/
namespace WK
open PySem PySem.Spec PyProof.Rows L2
section
variable {σ : L2.St} {H : Hp} {te ta tb tc tl : TE} {A : List V → Hp → Prop} {K : PySem.W.Frag} {D : Ends} {CS : Addr} {S : CB.MS} {P1 P2 : V → Hp → Prop}
theorem s_asg {P : V → Hp → Prop} {g : TG} (h : Y te σ H P) (k : ∀ v H1, Same H H1 → P v H1 → g v σ H1 D.nx) : tAsg te g D σ H := h H (Same.refl _) _ fun v H1 e p => k v H1 e p
/-- a walk over two lists at once; what is changed within is the invariant's business -/
theorem s_forZ {ta : TA} {g : TG} {tb : TS} (h : YA ta σ H (AC P1 (AC P2 AN))) (k : ∀ v1 v2 H2, Same H H2 → P1 v1 H2 → P2 v2 H2 → ∃ (a b : Addr) (xs ys : List V) (Pv : Nat → L2.St → Hp → Prop), v1 = .ref a ∧ v2 = .ref b ∧ xs.length = ys.length ∧ Pv 0 σ H2 ∧ (∀ i σ' H', Pv i σ' H' → H' a = some (.lst xs) ∧ H' b = some (.lst ys)) ∧
      (∀ i x y T σ' H', xs[i]? = some x → ys[i]? = some y → Pv i σ' H' → H' T = none → g (.ref T) σ' (upd H' T (.tup [x, y])) fun σ2 H3 => tb { D with nx := Pv (i + 1), ct := Pv (i + 1), bk := D.nx } σ2 H3) ∧ ∀ σ' H', Pv xs.length σ' H' → D.nx σ' H') : tFor (iZip K ta) g tb D σ H := by
  refine h H (Same.refl _) _ fun vs H2 e2 ⟨v1, r1, h1, p1, v2, r2, h2, p2, h3⟩ => ?_
  obtain ⟨a, b, xs, ys, Pv, e1, e2', hl, h0, hq, hs, hd⟩ := k v1 v2 H2 e2 p1 (by exact p2)
  exact ⟨a, b, xs, ys, by rw [h1, h2, h3, e1, e2'], SqL.of (hq _ _ _ h0).1, SqL.of (hq _ _ _ h0).2, RZ.for_zipL hl Pv h0 (fun i σ' H' hp => ⟨SqL.of (hq _ _ _ hp).1, SqL.of (hq _ _ _ hp).2⟩) hs hd⟩
end
def numsK (S : CB.MS) (k : Nat) : List Int := ((S.cols.zip S.rows).take k).foldl (fun l p => l.set p.1 (-(p.2.getLastD 0))) (List.replicate S.cols.length 0 ++ [S.pivot])
theorem foldl_set_bd {B : Nat} : ∀ (ps : List (Nat × List Int)) (l : List Int), (∀ p ∈ ps, BdL B p.2) → BdL B l → BdL B (ps.foldl (fun l p => l.set p.1 (-(p.2.getLastD 0))) l)
  | [], _, _, h => h
  | p :: ps, l, hp, h => by
    rw [List.foldl_cons]
    refine foldl_set_bd ps _ (fun q hq => hp q (List.mem_cons_of_mem _ hq)) fun x hx => ?_
    rcases List.mem_or_eq_of_mem_set hx with h1 | h1
    · exact h x h1
    · rw [h1, Int.natAbs_neg]
      exact (hp p (List.mem_cons_self ..)).last
theorem numbers_bd {w : Nat} {E : List (List Int)} {S : CB.MS} (o : SyOk w E S) (hE : E.length ≤ 6) : BdL 3000 S.numbers := by
  have hb := bits_6 hE
  unfold CB.MS.numbers
  refine foldl_set_bd _ _ (fun p hp => (o.rb p.2 (List.of_mem_zip (a := p.1) (b := p.2) hp).2).mono (by omega)) (BdL.app (fun x hx => ?_) fun x hx => ?_)
  · rw [List.eq_of_mem_replicate hx]
    exact Nat.pow_pos (by decide)
  · rw [List.mem_singleton.mp hx]
    exact bd_up o.pb (by omega)
section
variable {P : Program} {w : World} {K : PySem.W.Frag} {mg : Str → Option Value} {base : Heap} {CI CC CS CP : Addr}
abbrev SpSol (CS : Addr) : Sp := SpF (fun a => SyOk (a.1 + 1) a.2.1 a.2.2 ∧ a.2.1.length = a.1 ∧ a.1 ≤ 6) (fun (a : Nat × List (List Int) × CB.MS) => AC (IsSy CS a.2.2) AN) (fun a => IsTs (CB.lowestPoint a.2.2.numbers))
theorem sc_System_solution : FnScope ["self", "numbers", "column", "row"] ["self"] (defScope (inClass (top 39) 4)) := ⟨rfl, rfl, rfl, by decide +kernel, rfl, by decide +kernel, by decide +kernel⟩
theorem m_System_solution (T : Txt K mg CI CC CS CP) (D_lowest_point : Dk P w K mg base 2 "lowest_point" ["numbers"] SpLowP) : Dm P w K mg base 3 CS "solution" ["self"] (SpSol CS) := by
  refine T.m_System_solution.ok (N := ["self", "numbers", "column", "row"]) sc_System_solution (fun a vs H h => len1 h) ?_
  intro f cdv A outer s H vs E ⟨n, EE, S⟩ hr ⟨o, hE, hn⟩ ⟨v, r, e1, hv, e2⟩
  subst e1 e2
  dsimp only at o hE hn hv
  have hcnt := o.R.count
  have hnum := o.R.numbers hE
  refine ⟨_, (pss_cons (ps_set (i := 1) sc_System_solution.nd rfl (.inl rfl) (pe_op op_cat (pe_op op_rep (pe_lst (pa_cons pe_int pa_nil)) (pe_callB call_len_seq (by rfl) T.b_len PySem.boot_len (pa_cons (pe_fld (pv 0) rfl) pa_nil))) (pe_lst (pa_cons (pe_fld (pv 0) rfl) pa_nil)))) (pss_cons (ps_for PassesOwn.never rfl (pi_zip (by rfl) T.b_zip (pa_cons (pe_fld (pv 0) rfl) (pa_cons (pe_fld (pv 0) rfl) pa_nil))) (pg_tup (by rfl) (pgs_cons (pg_name (i := 2) sc_System_solution.nd rfl (.inl rfl)) (pgs_cons (pg_name (i := 3) sc_System_solution.nd rfl (.inl rfl)) pgs_nil))) (pss_one (ps_asg (pe_un un_neg (pe_ix ix_list (pv 3) (pe_un un_neg pe_int) (fun _ _ => rfl))) (pg_sub (pv 1) (pv 2) set_list)))) (pss_one (ps_ret (D_lowest_point.call hr (by decide) (by rfl) (pa_cons (pv 1) pa_nil)))))), fun Q q => ?_⟩
  have hv' := hv
  obtain ⟨a, dx, c, r, rfl, ha, hc, hr'⟩ := hv'
  obtain ⟨pc, rfl, hpc⟩ := isIs_iff.mp hc
  obtain ⟨pr, vs, rfl, hpr, hvs⟩ := hr'
  have hnn : ((S.cols.map fun (n : Nat) => (n : Int)).length : Int).toNat = S.cols.length := by rw [List.length_map]; omega
  refine s_setO (yo_cat (R := RN) (YO.y (yo_rep (n := 0) (y_list1 y_c) (y_len (ya_cons (y_columns T (y_var rfl hv)) ya_nil)) (by omega) (by rw [List.length_map]; omega))) (y_list1 (y_pivot T (y_var rfl hv))) (by rw [hnn, List.length_replicate, List.length_singleton]; omega)) fun u1 H1 s1 p1 o1 => s_seq ?_
  rw [hnn] at p1
  obtain ⟨d, rfl, hd⟩ := isIs_iff.mp p1
  have hdn : H d = none := by
    cases e : H d with
    | none => rfl
    | some ob =>
      exfalso
      have := s1 _ _ e
      rw [hd] at this
      cases this
      exact o1 d _ e rfl
  have hlen : ∀ k, (numsK S k).length = S.cols.length + 1 := by
    intro k
    unfold numsK
    rw [CB.foldl_set_length]
    simp
  refine s_forZ (P1 := IsV (.ref pc)) (P2 := IsV (.ref pr)) (ya_cons (y_fld (y_val rfl) (s1 _ _ ha) T.c_System T.a_System_columns rfl rfl) (ya_cons (y_fld (y_val rfl) (s1 _ _ ha) T.c_System T.a_System_rows rfl rfl) ya_nil)) fun v1 v2 H2 s2 q1 q2 => ⟨pc, pr, _, vs, fun k σ' H' => ∃ z2 z3, σ' = [some (.ref a), some (.ref d), z2, z3] ∧ H' d = some (.lst ((numsK S k).map V.int)) ∧ Same H H', q1, q2, by rw [hvs.length, List.length_map, List.length_map, o.R.same], ⟨none, none, rfl, s2 _ _ hd, s1.trans s2⟩, fun i σ' H' ⟨z2, z3, h1, h2, h3⟩ => ⟨h3 _ _ hpc, h3 _ _ hpr⟩, ?_, ?_⟩
  · rintro i x y Tp σ' H' hx hy ⟨z2, z3, rfl, h2, h3⟩ hT
    rw [List.getElem?_map, List.getElem?_map] at hx
    obtain ⟨ci, hci, rfl⟩ := Option.map_eq_some_iff.mp hx
    obtain ⟨cn, hcn, rfl⟩ := Option.map_eq_some_iff.mp hci
    obtain ⟨row, hrow, hry⟩ := hvs.back hy
    have hrm := List.mem_of_getElem? hrow
    have hcl := o.R.low cn (List.mem_of_getElem? hcn)
    have hrl := o.R.lengths row hrm
    have rne : row ≠ [] := List.length_pos_iff.mp (by omega)
    have sT : Same H' (upd H' Tp (.tup [.int (cn : Int), y])) := Same.new hT
    refine ⟨Tp, _, rfl, SqT.of upd_same, rfl, _, _, rfl, _, _, rfl, rfl, ?_⟩
    refine s_asg (y_un (y_ixI (y_var rfl (Mono.mono (h3.trans sT) hry)) (y_un y_c) (atI_neg1 rne))) fun u3 H3 s3 p3 => ?_
    cases p3
    refine ⟨_, rfl, _, rfl, d, _, _, cn, rfl, rfl, s3 _ _ (sT _ _ h2), ?_, ?_⟩
    · rw [List.length_map, hlen]
      unfold ixN
      rw [if_pos (by omega), if_pos (by omega)]
      rfl
    · refine ⟨_, _, rfl, ?_, Same.mut (h3.trans (sT.trans s3)) hdn⟩
      rw [upd_same]
      congr 2
      have : numsK S (i + 1) = (numsK S i).set cn (-(row.getLastD 0)) := foldl_take_snoc _ _ (zip_at hcn hrow)
      rw [this, List.map_set]
  · rintro σ' H' ⟨z2, z3, rfl, h2, h3⟩
    have hall : numsK S ((S.cols.map fun (n : Nat) => (n : Int)).map V.int).length = S.numbers := by
      rw [List.length_map, List.length_map]
      unfold numsK
      rw [List.take_of_length_le (by rw [List.length_zip, o.R.same, Nat.min_self]; exact Nat.le_refl _)]
      rfl
    rw [hall] at h2
    dsimp only
    exact s_ret (y_call S.numbers ⟨by rw [hnum.2.1]; exact o.R.nz, (numbers_bd o (by omega)).mono (by decide), by rw [hnum.1]; omega⟩ (ya_cons (y_var rfl (isIs_mk h2)) ya_nil)) fun u5 H5 s5 p5 => q u5 H5 (h3.trans s5) p5
end
end WK

/- WkP1 -/
/-! Programs: what needs no search. -/
namespace WK
open PySem PySem.Spec PyProof.Rows L2
structure OkM (M : CB.MP) : Prop where
  w : M.width ≤ 6
  few : M.rows.length ≤ 6
  r : ∀ r ∈ M.rows, r.length = M.width + 1 ∧ BdL 11 r
  g : M.goal.length = M.width
  gb : BdL 11 M.goal
theorem minOf_lt : ∀ (ns : List Int) (n : Int), (decide (PySem.W.minOf n ns < 0)) = !((n :: ns).all fun a => decide (0 ≤ a))
  | [], n => by
    show decide (n < 0) = !(decide (0 ≤ n) && true)
    rw [Bool.and_true, ← decide_not]
    exact decide_eq_decide.mpr (by omega)
  | m :: ns, n => by
    have e : PySem.W.minOf n (m :: ns) = PySem.W.minOf (if m < n then m else n) ns := by
      show List.foldl _ (if decide (m < n) = true then m else n) ns = _
      simp only [decide_eq_true_eq]
      rfl
    rw [e, minOf_lt ns]
    rw [List.all_cons, List.all_cons, List.all_cons, ← Bool.and_assoc]
    congr 2
    rw [Bool.eq_iff_iff]
    simp only [decide_eq_true_eq, Bool.and_eq_true]
    split <;> omega
theorem not_t {b : Bool} (h : (!b) = true) : b = false := by
  cases b
  · rfl
  · cases h
theorem not_f {b : Bool} (h : (!b) = false) : b = true := by
  cases b
  · cases h
  · rfl
theorem off_none {H H1 : Hp} {d : Addr} {xs : List V} (s : Same H H1) (h : H1 d = some (.lst xs)) (o : Off H (.ref d)) : H d = none := by
  cases e : H d with
  | none => rfl
  | some ob =>
    exfalso
    have := s _ _ e
    rw [h] at this
    cases this
    exact o d _ e rfl
section
variable {P : Program} {w : World} {K : PySem.W.Frag} {mg : Str → Option Value} {base : Heap} {CI CC CS CP : Addr}
/-- a program's rows and a point -/
def KpOk (M : CB.MP) (p : List Int) : Prop := M.rows.length ≤ 1000 ∧ (∀ r ∈ M.rows, r.length = M.width + 1 ∧ BdL 11 r) ∧ p.length = M.width + 1 ∧ M.width ≤ 6 ∧ BdL 3000 p
abbrev SpKeep (CP : Addr) : Sp := SpF (fun a => KpOk a.1 a.2) (fun (a : CB.MP × List Int) => AC (IsPr CP a.1) (AC (IsTs a.2) AN)) (fun a => IsB (CB.keepM a.1.rows a.2))
theorem sc_keeps_to : FnScope ["program", "point", "row"] ["program", "point"] (defScope (top 45)) := ⟨rfl, rfl, rfl, by decide +kernel, rfl, by decide +kernel, by decide +kernel⟩
theorem d_keeps_to (T : Txt K mg CI CC CS CP) (D_dot : Dk P w K mg base 1 "dot" ["row", "point"] SpDot) : Dk P w K mg base 2 "keeps_to" ["program", "point"] (SpKeep CP) := by
  refine T.d_keeps_to.ok (N := ["program", "point", "row"]) sc_keeps_to (fun a vs H h => len2 h) ?_
  intro f cdv A outer s H vs E ⟨M, p⟩ hr ⟨hf, hrw, hl, hw, hb⟩ ⟨v, r, e1, hv, v2, r2, e2, hv2, e3⟩
  subst e1 e2 e3
  dsimp only at hf hrw hl hw hb hv hv2
  refine ⟨_, (pss_cons (ps_if (pt_cmpR op_lt (pe_callB (cr_minT rfl hr.units) (by rfl) T.b_min PyProof.Rows.boot_min (pa_cons (pv 1) pa_nil)) pe_int (nomark _)) (pss_one (ps_ret pe_bl)) pss_nil) (pss_one (ps_ret (pe_callB (cr_all rfl) (by rfl) T.b_all PyProof.Rows.boot_all (pa_cons (pe_lc (own := [("row", 2)]) (g := (gName 2)) (tt := tYes) rfl sc_keeps_to.nd (pi_list (pe_fld (pv 0) rfl)) (blkOk_by (own := [("row", 2)]) (N := ["program", "point", "row"]) (sc := defScope (top 45)) (by decide +kernel)) (fun _ _ _ _ _ => (pg_name (i := 2) sc_keeps_to.nd rfl (.inl rfl))) (fun _ _ _ _ _ => pts_nil) (fun _ _ _ _ _ => (pe_cmpR op_le (D_dot.call hr (by decide) (by rfl) (pa_cons (pv 2) (pa_cons (pv 1) pa_nil))) pe_int (nomark _)))) pa_nil))))), fun Q q => ?_⟩
  cases p with
  | nil => cases hl
  | cons n ns =>
    refine s_if (yt_test (y_I0 (y_minT (ya_cons (y_var rfl hv2) ya_nil)) y_c)) (fun h H1 s1 => s_ret y_c fun u H2 s2 p2 => q u H2 (s1.trans s2) ?_) fun h H1 s1 => s_ret (y_all (ya_cons (y_map (T := RB) (f := fun r => decide (CB.idot r (n :: ns) ≤ 0)) (by omega) (y_rows T (y_var rfl (Mono.mono s1 hv))) (fun _ => rfl) fun r hr' x H3 s3 hx => yo_B (y_I0 (y_call (r, n :: ns) ⟨by rw [(hrw r hr').1]; exact hl.symm, by show r.length ≤ 1000; rw [(hrw r hr').1]; omega, (hrw r hr').2.mono (by decide), hb.mono (by decide)⟩ (ya_cons (y_var rfl hx) (ya_cons (y_var rfl (Mono.mono (s1.trans s3) hv2)) ya_nil))) y_c)) ya_nil)) fun u H2 s2 p2 => q u H2 (s1.trans s2) ?_
    · rw [minOf_lt] at h
      rw [p2]
      unfold CB.keepM
      rw [not_t h]
      rfl
    · rw [minOf_lt] at h
      rw [p2]
      unfold CB.keepM
      rw [not_f h, List.all_map]
      rfl
abbrev SpSign : Sp := SpF (fun (n : Nat) => n ≤ 100) (fun n => AC (IsN (n : Int)) AN) (fun n => IsL (IsL RN) (CB.signRows n))
theorem sc_sign_rows : FnScope ["width", "rows", "place", "row"] ["width"] (defScope (top 46)) := ⟨rfl, rfl, rfl, by decide +kernel, rfl, by decide +kernel, by decide +kernel⟩
theorem d_sign_rows (T : Txt K mg CI CC CS CP) : Dk P w K mg base 1 "sign_rows" ["width"] SpSign := by
  refine T.d_sign_rows.ok (N := ["width", "rows", "place", "row"]) sc_sign_rows (fun a vs H h => len1 h) ?_
  intro f cdv A outer s H vs E n hr hn ⟨v, r, e1, hv, e2⟩
  subst e1 e2
  cases hv
  refine ⟨_, (pss_cons (ps_set (i := 1) sc_sign_rows.nd rfl (.inl rfl) (pe_lst pa_nil)) (pss_cons (ps_for PassesOwn.never rfl (pi_range1 (by rfl) T.b_range (pa_cons (pv 0) pa_nil)) (pg_name (i := 2) sc_sign_rows.nd rfl (.inl rfl)) (pss_cons (ps_set (i := 3) sc_sign_rows.nd rfl (.inl rfl) (pe_op op_rep (pe_lst (pa_cons pe_int pa_nil)) (pe_op op_add (pv 0) pe_int))) (pss_cons (ps_asg pe_int (pg_sub (pv 3) (pv 2) set_list)) (pss_one (ps_expr (pe_bm PySem.F.plainAttrs_list PySem.F.slot_list_append PySem.F.type_list_append mt_append (pv 1) (pa_cons (pv 3) pa_nil))))))) (pss_one (ps_ret (pv 1))))), fun Q q => ?_⟩
  refine s_new fun d hd => s_seq ?_
  have s0 : Same H (upd H d (.lst [])) := Same.new hd
  refine s_forR (by omega) (by omega) (ya_cons (y_val rfl) ya_nil) (fun k σ' H' => ∃ z2 z3 vs, σ' = [some (.int (n : Int)), some (.ref d), z2, z3] ∧ H' d = some (.lst vs) ∧ Each (IsL RN) ((List.range k).map (CB.signRow n)) vs H' ∧ (∀ y ∈ vs, y ≠ .ref d) ∧ Same H H') (fun H1 s1 => ⟨none, none, [], rfl, s1 _ _ upd_same, trivial, fun y hy => absurd hy List.not_mem_nil, s0.trans s1⟩) ?_ ?_
  · rintro k hk σ' H' ⟨z2, z3, vs, rfl, h1, h2, h3, h4⟩
    dsimp only [List.set]
    refine s_setO (yo_rep (n := 0) (y_list1 y_c) (y_I0 (y_val rfl) y_c) (by omega) (by omega)) fun u1 H1 s1 p1 o1 => s_seq ?_
    obtain ⟨p, rfl, hp⟩ := isIs_iff.mp p1
    have hpn := off_none s1 hp o1
    have hpd : p ≠ d := fun e => by
      rw [e, h1] at hpn
      cases hpn
    dsimp only
    refine s_asg y_c fun u2 H2 s2 p2 => ?_
    cases p2
    have hnn : ((n : Int) + 1).toNat = n + 1 := by omega
    refine ⟨_, rfl, _, rfl, p, _, _, k, rfl, rfl, s2 _ _ hp, ?_, ?_⟩
    · rw [List.length_map, List.length_replicate, hnn]
      unfold ixN
      rw [if_pos (by omega), if_pos (by omega)]
      rfl
    · rw [hnn]
      have sx : Same H' (upd H2 p (.lst (((List.replicate (n + 1) (0 : Int)).map V.int).set k (.int 1)))) := Same.mut (s1.trans s2) hpn
      refine s_append (A := AC (IsV (.ref p)) AN) (y_val rfl) (sx _ _ h1) (by rw [h2.length, List.length_map, List.length_range]; omega) (ya_cons (y_val rfl) ya_nil) (fun v3 vs3 H3 e3 s3 a3 hd3 => ?_) fun vs3 H3 a3 => len1 a3
      subst e3
      obtain ⟨_, _, ee, p3, _⟩ := a3
      cases ee
      cases p3
      refine ⟨_, _, _, rfl, upd_same, ?_, ?_, Same.mut (h4.trans (sx.trans s3)) hd⟩
      · rw [List.range_succ, List.map_append, List.map_singleton]
        have hq : H3 p = some (.lst ((CB.signRow n k).map V.int)) := by
          rw [s3 _ _ upd_same]
          unfold CB.signRow
          rw [List.map_set]
        refine Each.snoc ((inferInstance : Sh (IsIs _)).sh (isIs_mk hq) (fun z => hpd (by cases z; rfl))) (each_sh (Each.mono (sx.trans s3) h2) h3)
      · intro y hy
        rcases List.mem_append.mp hy with h | h
        · exact h3 y h
        · rw [List.mem_singleton.mp h]
          exact fun z => hpd (by cases z; rfl)
  · rintro σ' H' ⟨z2, z3, vs, rfl, h1, h2, h3, h4⟩
    have e : ((n : Int)).toNat = n := by omega
    rw [e] at h2
    dsimp only
    exact s_ret (y_var rfl ⟨d, vs, rfl, h1, h2⟩) fun u5 H5 s5 p5 => q u5 H5 (h4.trans s5) p5
abbrev SpCone (CP : Addr) : Sp := SpF OkM (fun (M : CB.MP) => AC (IsPr CP M) AN) (fun M => IsPr CP (CB.coneM M))
theorem sc_cone_of : FnScope ["program", "rows", "row"] ["program"] (defScope (top 50)) := ⟨rfl, rfl, rfl, by decide +kernel, rfl, by decide +kernel, by decide +kernel⟩
theorem d_cone_of (T : Txt K mg CI CC CS CP) (D_Program : Di P w K mg base 1 CP ["self", "width", "rows", "goal"] (SpIPr CP)) : Dk P w K mg base 3 "cone_of" ["program"] (SpCone CP) := by
  refine T.d_cone_of.ok (N := ["program", "rows", "row"]) sc_cone_of (fun a vs H h => len1 h) ?_
  intro f cdv A outer s H vs E M hr ok ⟨v, r, e1, hv, e2⟩
  subst e1 e2
  refine ⟨_, (pss_cons (ps_setLc (i := 1) (own := [("row", 2)]) (g := (gName 2)) (tt := tYes) rfl sc_cone_of.nd rfl rfl (sw_true rfl rfl rfl (by decide +kernel)) (pi_list (pe_fld (pv 0) rfl)) (blkOk_by (own := [("row", 2)]) (N := ["program", "rows", "row"]) (sc := defScope (top 50)) (by decide +kernel)) (fun _ _ _ _ _ => (pg_name (i := 2) sc_cone_of.nd rfl (.inl rfl))) (fun _ _ _ _ _ => pts_nil) (fun _ _ _ _ _ => (pe_op op_cat (pe_slice (sl_listK (K := K) rfl) (pv 2) po_none (po_some (pe_un un_neg pe_int))) (pe_lst (pa_cons pe_int pa_nil))))) (pss_one (ps_ret (D_Program.call hr (by decide) (by rfl) T.g_Program (pa_cons (pe_fld (pv 0) rfl) (pa_cons (pv 1) (pa_cons (pe_fld (pv 0) rfl) pa_nil))))))), fun Q q => ?_⟩
  refine s_set (y_map (T := IsIs) (f := fun (r : List Int) => r.dropLast ++ [0]) (by have := ok.few; omega) (y_rows T (y_var rfl hv)) (fun _ => rfl) fun r hr' x H3 s3 hx => yo_cat (R := RN) (Y.toL (YO.y (yo_sl (R := RN) (y_var rfl hx) yp_none (yp_some (y_un y_c)))) (cut_init _)) (y_list1 y_c) (by rw [List.length_dropLast, (ok.r r hr').1, List.length_singleton]; have := ok.w; omega)) fun u1 H1 s1 p1 => ?_
  exact s_ret (YO.y (yo_program (CB.coneM M) (y_width (M := M) T (y_var rfl (Mono.mono s1 hv))) (y_var rfl p1) (y_goal (M := M) T (y_var rfl (Mono.mono s1 hv))))) fun u2 H2 s2 p2 => q u2 H2 (s1.trans s2) p2
abbrev SpGains (CP : Addr) : Sp := SpF (fun a => OkM a.1 ∧ PtB a.1.width a.2) (fun (a : CB.MP × List Int) => AC (IsPr CP a.1) (AC (IsTs a.2) AN)) (fun a => IsB (CB.gains a.1.goal a.2))
theorem sc_gains : FnScope ["program", "point"] ["program", "point"] (defScope (top 52)) := ⟨rfl, rfl, rfl, by decide +kernel, rfl, by decide +kernel, by decide +kernel⟩
theorem d_gains (T : Txt K mg CI CC CS CP) (D_dot : Dk P w K mg base 1 "dot" ["row", "point"] SpDot) : Dk P w K mg base 2 "gains" ["program", "point"] (SpGains CP) := by
  refine T.d_gains.ok (N := ["program", "point"]) sc_gains (fun a vs H h => len2 h) ?_
  intro f cdv A outer s H vs E ⟨M, p⟩ hr ⟨ok, pt⟩ ⟨v, r, e1, hv, v2, r2, e2, hv2, e3⟩
  subst e1 e2 e3
  dsimp only at ok pt hv hv2
  refine ⟨_, (pss_one (ps_ret (pe_cmpR op_gt (D_dot.call hr (by decide) (by rfl) (pa_cons (pe_fld (pv 0) rfl) (pa_cons (pe_slice sl_tup (pv 1) po_none (po_some (pe_un un_neg pe_int))) pa_nil))) pe_int (nomark _)))), fun Q q => ?_⟩
  exact s_ret (y_I0 (y_call (M.goal, p.dropLast) ⟨by rw [ok.g, pt.initlen], by show M.goal.length ≤ 1000; rw [ok.g]; have := ok.w; omega, ok.gb.mono (by decide), pt.2.1.init.mono (by decide)⟩ (ya_cons (y_goal T (y_var rfl hv)) (ya_cons (y_initT (y_var rfl hv2) (yp_some (y_un y_c)) pt.ne) ya_nil))) y_c) q
abbrev SpProven (CP : Addr) : Sp := SpF (fun a => OkM a.1 ∧ PtB a.1.rows.length a.2) (fun (a : CB.MP × List Int) => AC (IsPr CP a.1) (AC (IsTs a.2) AN)) (fun a => IsIs (CB.provenM a.1 a.2))
theorem sc_proven_bound_of : FnScope ["program", "point", "row"] ["program", "point"] (defScope (top 56)) := ⟨rfl, rfl, rfl, by decide +kernel, rfl, by decide +kernel, by decide +kernel⟩
theorem d_proven_bound_of (T : Txt K mg CI CC CS CP) (D_value_of : Dk P w K mg base 3 "value_of" ["goal", "point"] SpVal) : Dk P w K mg base 4 "proven_bound_of" ["program", "point"] (SpProven CP) := by
  refine T.d_proven_bound_of.ok (N := ["program", "point", "row"]) sc_proven_bound_of (fun a vs H h => len2 h) ?_
  intro f cdv A outer s H vs E ⟨M, p⟩ hr ⟨ok, pt⟩ ⟨v, r, e1, hv, v2, r2, e2, hv2, e3⟩
  subst e1 e2 e3
  dsimp only at ok pt hv hv2
  have few := ok.few
  refine ⟨_, (pss_one (ps_ret (D_value_of.call hr (by decide) (by rfl) (pa_cons (pe_lc (own := [("row", 2)]) (g := (gName 2)) (tt := tYes) rfl sc_proven_bound_of.nd (pi_list (pe_fld (pv 0) rfl)) (blkOk_by (own := [("row", 2)]) (N := ["program", "point", "row"]) (sc := defScope (top 56)) (by decide +kernel)) (fun _ _ _ _ _ => (pg_name (i := 2) sc_proven_bound_of.nd rfl (.inl rfl))) (fun _ _ _ _ _ => pts_nil) (fun _ _ _ _ _ => (pe_un un_neg (pe_ix (ix_listK (K := K) rfl) (pv 2) (pe_un un_neg pe_int) (fun _ _ => rfl))))) (pa_cons (pv 1) pa_nil))))), fun Q q => ?_⟩
  refine s_ret (y_call (M.rows.map fun r => - r.getLastD 0, p) ⟨by rw [List.length_map]; exact pt.1.symm, by show (M.rows.map _).length ≤ 900; rw [List.length_map]; omega, ?_, pt.2.1.mono (by decide), Int.ne_of_gt pt.2.2⟩ (ya_cons (y_map (T := RN) (f := fun (r : List Int) => - r.getLastD 0) (by omega) (y_rows T (y_var rfl hv)) (fun _ => rfl) fun r hr' x H3 s3 hx => yo_N (y_un (y_ixI (y_var rfl hx) (y_un y_c) (atI_neg1 (List.length_pos_iff.mp (by rw [(ok.r r hr').1]; omega)))))) (ya_cons (y_var rfl hv2) ya_nil))) q
  intro x hx
  obtain ⟨r, hr', rfl⟩ := List.mem_map.mp hx
  rw [Int.natAbs_neg]
  exact bd_up (ok.r r hr').2.last (by decide)
abbrev SpDual (CP : Addr) : Sp := SpF OkM (fun (M : CB.MP) => AC (IsPr CP M) AN) (fun M => IsPr CP (CB.dualM M))
theorem sc_dual_of : FnScope ["program", "rows", "place", "row", "constraint"] ["program"] (defScope (top 55)) := ⟨rfl, rfl, rfl, by decide +kernel, rfl, by decide +kernel, by decide +kernel⟩
theorem d_dual_of (T : Txt K mg CI CC CS CP) (D_Program : Di P w K mg base 1 CP ["self", "width", "rows", "goal"] (SpIPr CP)) : Dk P w K mg base 3 "dual_of" ["program"] (SpDual CP) := by
  refine T.d_dual_of.ok (N := ["program", "rows", "place", "row", "constraint"]) sc_dual_of (fun a vs H h => len1 h) ?_
  intro f cdv A outer s H vs E M hr ok ⟨v, r, e1, hv, e2⟩
  subst e1 e2
  have few := ok.few
  have hw := ok.w
  refine ⟨_, (pss_cons (ps_set (i := 1) sc_dual_of.nd rfl (.inl rfl) (pe_lst pa_nil)) (pss_cons (ps_for PassesOwn.never rfl (pi_range1 (by rfl) T.b_range (pa_cons (pe_fld (pv 0) rfl) pa_nil)) (pg_name (i := 2) sc_dual_of.nd rfl (.inr rfl)) (pss_cons (ps_setLc (i := 3) (own := [("constraint", 4)]) (g := (gName 4)) (tt := tYes) rfl sc_dual_of.nd rfl rfl (sw_true rfl rfl rfl (by decide +kernel)) (pi_list (pe_fld (pv 0) rfl)) (blkOk_by (own := [("constraint", 4)]) (N := ["program", "rows", "place", "row", "constraint"]) (sc := defScope (top 55)) (by decide +kernel)) (fun _ _ _ _ _ => (pg_name (i := 4) sc_dual_of.nd rfl (.inl rfl))) (fun _ _ _ _ _ => pts_nil) (fun _ _ _ _ _ => (pe_un un_neg (pe_ix (ix_listK (K := K) rfl) (pv 4) (pv 2) (fun _ _ => rfl))))) (pss_one (ps_expr (pe_bm PySem.F.plainAttrs_list PySem.F.slot_list_append PySem.F.type_list_append mt_append (pv 1) (pa_cons (pe_op op_cat (pv 3) (pe_lst (pa_cons (pe_ix ix_list (pe_fld (pv 0) rfl) (pv 2) (fun _ _ => rfl)) pa_nil))) pa_nil)))))) (pss_one (ps_ret (D_Program.call hr (by decide) (by rfl) T.g_Program (pa_cons (pe_callB call_len_seq (by rfl) T.b_len PySem.boot_len (pa_cons (pe_fld (pv 0) rfl) pa_nil)) (pa_cons (pv 1) (pa_cons (pe_lc (own := [("constraint", 4)]) (g := (gName 4)) (tt := tYes) rfl sc_dual_of.nd (pi_list (pe_fld (pv 0) rfl)) (blkOk_by (own := [("constraint", 4)]) (N := ["program", "rows", "place", "row", "constraint"]) (sc := defScope (top 55)) (by decide +kernel)) (fun _ _ _ _ _ => (pg_name (i := 4) sc_dual_of.nd rfl (.inl rfl))) (fun _ _ _ _ _ => pts_nil) (fun _ _ _ _ _ => (pe_ix (ix_listK (K := K) rfl) (pv 4) (pe_un un_neg pe_int) (fun _ _ => rfl)))) pa_nil)))))))), fun Q q => ?_⟩
  refine s_new fun d hd => s_seq ?_
  have s0 : Same H (upd H d (.lst [])) := Same.new hd
  refine s_forR (by omega) (by omega) (ya_cons (y_width T (y_var rfl (Mono.mono s0 hv))) ya_nil) (fun k σ' H' => ∃ z2 z3 z4 vs, σ' = [some v, some (.ref d), z2, z3, z4] ∧ H' d = some (.lst vs) ∧ Each (IsL RN) ((List.range k).map (fun j => (M.rows.map fun r => - r.getD j 0) ++ [M.goal.getD j 0])) vs H' ∧ (∀ y ∈ vs, y ≠ .ref d) ∧ Same H H') (fun H1 s1 => ⟨none, none, none, [], rfl, s1 _ _ upd_same, trivial, fun y hy => absurd hy List.not_mem_nil, s0.trans s1⟩) ?_ ?_
  · rintro k hk σ' H' ⟨z2, z3, z4, vs, rfl, h1, h2, h3, h4⟩
    dsimp only [List.set]
    have hk' : k < M.width := by omega
    refine s_set (y_map (T := RN) (f := fun (r : List Int) => - r.getD k 0) (by omega) (y_rows T (y_var rfl (Mono.mono h4 hv))) (fun _ => rfl) fun r hr' x H3 s3 hx => yo_N (y_un (y_ixI (y_var rfl hx) (y_val rfl) (atN (by rw [(ok.r r hr').1]; omega))))) fun u1 H1 s1 p1 => ?_
    refine s_appendO (y_val rfl) (s1 _ _ h1) (by rw [h2.length, List.length_map, List.length_range]; omega) (yo_cat (R := RN) (y_var rfl p1) (y_list1 (y_ixI (y_goal T (y_var rfl (Mono.mono (h4.trans s1) hv))) (y_val rfl) (atN (by rw [ok.g]; exact hk')))) (by rw [List.length_map, List.length_singleton]; omega)) fun u3 H3 s3 p3 n3 hd3 => ?_
    refine ⟨_, _, _, _, rfl, upd_same, ?_, ?_, Same.mut (h4.trans (s1.trans s3)) hd⟩
    · rw [List.range_succ, List.map_append, List.map_singleton]
      exact Each.snoc ((inferInstance : Sh (IsIs _)).sh p3 n3) (each_sh (Each.mono (s1.trans s3) h2) h3)
    · intro y hy
      rcases List.mem_append.mp hy with h | h
      · exact h3 y h
      · rw [List.mem_singleton.mp h]
        exact n3
  · rintro σ' H' ⟨z2, z3, z4, vs, rfl, h1, h2, h3, h4⟩
    have e : ((M.width : Int)).toNat = M.width := by omega
    rw [e] at h2
    dsimp only
    refine s_ret (YO.y (yo_program (CB.dualM M) (y_len (ya_cons (y_rows T (y_var rfl (Mono.mono h4 hv))) ya_nil)) (y_var rfl ⟨d, vs, rfl, h1, h2⟩) (y_map (T := RN) (f := fun (r : List Int) => r.getLastD 0) (by omega) (y_rows T (y_var rfl (Mono.mono h4 hv))) (fun _ => rfl) fun r hr' x H3 s3 hx => yo_N (y_ixI (y_var rfl hx) (y_un y_c) (atI_neg1 (List.length_pos_iff.mp (by rw [(ok.r r hr').1]; omega))))))) fun u5 H5 s5 p5 => q u5 H5 (h4.trans s5) p5
end
end WK

/- WkP2 -/
/-! The search. -/
namespace WK
open PySem PySem.Spec PyProof.Rows L2
/-! ### how many, and what -/
def cnt : Nat → Nat → Nat
  | 0, _ => 1
  | j + 1, L => ((List.range (L - j)).map fun place => cnt j (L - (place + 1))).sum
theorem cnt_le : ∀ j, j < 7 → ∀ L, L < 13 → cnt j L ≤ 924 := by decide +kernel
/-- a step of the search's walk -/
def stepS (keep : List Int → Bool) (j : Nat) (S : CB.MS) (conds : List (List Int)) (found : List (List Int)) (place : Nat) : List (List Int) := match S.wider (conds.getD place []) with
  | none => found
  | some S' => CB.search keep j S' (conds.drop (place + 1)) found
theorem search_succ (keep : List Int → Bool) (j : Nat) (S : CB.MS) (conds found : List (List Int)) : CB.search keep (j + 1) S conds found = (List.range (conds.length - j)).foldl (stepS keep j S conds) found := rfl
def gath (j L k : Nat) : Nat := ((List.range k).map fun place => cnt j (L - (place + 1))).sum
theorem gath_succ (j L k : Nat) : gath j L (k + 1) = gath j L k + cnt j (L - (k + 1)) := by
  unfold gath
  rw [List.range_succ, List.map_append, List.sum_append]
  simp
theorem gath_mono (j L : Nat) : ∀ {a b : Nat}, a ≤ b → gath j L a ≤ gath j L b := by
  intro a b h
  induction h with
  | refl => exact Nat.le_refl _
  | step _ ih => rw [gath_succ]; omega
theorem gath_all (j L : Nat) : gath j L (L - j) = cnt (j + 1) L := rfl
theorem foldl_range_len {f : List (List Int) → Nat → List (List Int)} {g : Nat → Nat} (h : ∀ found place, (f found place).length ≤ found.length + g place) (found : List (List Int)) : ∀ k, ((List.range k).foldl f found).length ≤ found.length + ((List.range k).map g).sum
  | 0 => Nat.le_refl _
  | k + 1 => by
    rw [List.range_succ, List.foldl_append, List.map_append, List.sum_append]
    have h1 := h ((List.range k).foldl f found) k
    have h2 := foldl_range_len h found k
    simp only [List.foldl_cons, List.foldl_nil, List.map_cons, List.map_nil, List.sum_cons, List.sum_nil]
    omega
theorem cnt_pos : ∀ (j L : Nat), 0 ≤ cnt j L := fun _ _ => Nat.zero_le _
theorem search_len (keep : List Int → Bool) : ∀ (j : Nat) (S : CB.MS) (conds found : List (List Int)), (CB.search keep j S conds found).length ≤ found.length + cnt j conds.length
  | 0, S, conds, found => by
    unfold CB.search
    split
    · rw [List.length_append]
      exact Nat.le_refl _
    · exact Nat.le_add_right _ _
  | j + 1, S, conds, found => by
    rw [search_succ]
    refine foldl_range_len (g := fun place => cnt j (conds.length - (place + 1))) (fun f place => ?_) found _
    unfold stepS
    split
    · exact Nat.le_add_right _ _
    · rename_i S' _
      have := search_len keep j S' (conds.drop (place + 1)) f
      rw [List.length_drop] at this
      exact this
theorem step_len (keep : List Int → Bool) (j : Nat) (S : CB.MS) (conds found : List (List Int)) (k : Nat) : ((List.range k).foldl (stepS keep j S conds) found).length ≤ found.length + gath j conds.length k := by
  refine foldl_range_len (g := fun place => cnt j (conds.length - (place + 1))) (fun f place => ?_) found _
  unfold stepS
  split
  · exact Nat.le_add_right _ _
  · rename_i S' _
    have := search_len keep j S' (conds.drop (place + 1)) f
    rw [List.length_drop] at this
    exact this
/-- the search's wants -/
structure SchOk (n j : Nat) (E : List (List Int)) (S : CB.MS) (conds : List (List Int)) : Prop where
  o : SyOk (n + 1) E S
  c : E.length + j = n
  hn : n ≤ 6
  few : conds.length ≤ 12
  r : ∀ e ∈ conds, e.length = n + 1 ∧ BdL 11 e
theorem getD_mem {conds : List (List Int)} {place : Nat} (h : place < conds.length) : conds.getD place [] ∈ conds := CB.getD_mem_ h
theorem SchOk.step {n j : Nat} {E : List (List Int)} {S S' : CB.MS} {conds : List (List Int)} (o : SchOk n (j + 1) E S conds) {place : Nat} (hp : place < conds.length) (h : S.wider (conds.getD place []) = some S') : SchOk n j (conds.getD place [] :: E) S' (conds.drop (place + 1)) := by
  have hm := o.r _ (getD_mem hp)
  have := o.c
  have := o.hn
  exact ⟨o.o.wider hm.1 hm.2 (by omega) h, by rw [List.length_cons]; omega, o.hn, by rw [List.length_drop]; have := o.few; omega, fun e he => o.r e (List.mem_of_mem_drop he)⟩
theorem lowestPoint_bd {B : Nat} {l : List Int} (h : BdL B l) : BdL B (CB.lowestPoint l) := fun x hx => by
  unfold CB.lowestPoint at hx
  obtain ⟨y, hy, rfl⟩ := List.mem_map.mp hx
  exact Nat.lt_of_le_of_lt (Int.natAbs_fdiv_le_natAbs _ _) (h y hy)
theorem sol_PtB {n : Nat} {E : List (List Int)} {S : CB.MS} (o : SyOk (n + 1) E S) (hE : E.length = n) (hn : n ≤ 6) : PtB n (CB.lowestPoint S.numbers) := by
  have h := o.R.only hE
  exact ⟨h.2.2, lowestPoint_bd (numbers_bd o (by omega)), h.2.1.1⟩
theorem search_pts {keep : List Int → Bool} {n : Nat} : ∀ (j : Nat) {E : List (List Int)} {S : CB.MS} {conds found : List (List Int)}, SchOk n j E S conds → (∀ p ∈ found, PtB n p) → ∀ p ∈ CB.search keep j S conds found, PtB n p
  | 0, E, S, conds, found, o, hf, p, hp => by
    unfold CB.search at hp
    split at hp
    · rcases List.mem_append.mp hp with h | h
      · exact hf p h
      · rw [List.mem_singleton.mp h]
        exact sol_PtB o.o (by have := o.c; omega) o.hn
    · exact hf p hp
  | j + 1, E, S, conds, found, o, hf, p, hp => by
    rw [search_succ] at hp
    have key : ∀ k, k ≤ conds.length → ∀ p ∈ (List.range k).foldl (stepS keep j S conds) found, PtB n p := by
      intro k
      induction k with
      | zero => intro _; exact hf
      | succ k ih =>
        intro hk
        rw [List.range_succ, List.foldl_append]
        simp only [List.foldl_cons, List.foldl_nil]
        unfold stepS
        split
        · exact ih (by omega)
        · rename_i S' h'
          exact search_pts j (o.step (by omega) h') (ih (by omega))
    exact key _ (by omega) p hp
/-! ### the dict of what is found -/
def Keys (found : List (List Int)) (kvs : List (List Key × V)) : Prop := kvs.map (·.1) = found.map fun p => p.map Sum.inl
theorem inl_inj : ∀ {p q : List Int}, (p.map (Sum.inl : Int → Key)) = q.map Sum.inl → p = q
  | [], [], _ => rfl
  | a :: p, b :: q, h => by
    rw [List.map_cons, List.map_cons, List.cons.injEq] at h
    rw [Sum.inl.inj h.1, inl_inj h.2]
  | [], _ :: _, h => by cases h
  | _ :: _, [], h => by cases h
theorem keys_has {found : List (List Int)} {kvs : List (List Key × V)} (h : Keys found kvs) (p : List Int) : (valV kvs (p.map Sum.inl)).isSome = found.contains p := by
  rw [← valV_any]
  have e1 : (kvs.any fun kv => decide (kv.1 = p.map Sum.inl)) = (kvs.map (·.1)).any fun k => decide (k = p.map Sum.inl) := by
    rw [List.any_map]
    rfl
  rw [e1, h, List.any_map, Bool.eq_iff_iff, List.any_eq_true, List.contains_iff_mem]
  constructor
  · rintro ⟨q, hq, e⟩
    have e2 : q = p := inl_inj (by simpa using e)
    rw [← e2]
    exact hq
  · intro hp
    exact ⟨p, hp, by simp⟩
theorem keys_put {found : List (List Int)} {kvs : List (List Key × V)} (h : Keys found kvs) {p : List Int} (hp : found.contains p = false) (v : V) : Keys (found ++ [p]) (putK kvs (p.map Sum.inl) v) := by
  have hn : valV kvs (p.map Sum.inl) = none := by
    have := keys_has h p
    rw [hp] at this
    simpa using this
  rw [putK_new v hn]
  unfold Keys at h ⊢
  rw [List.map_append, List.map_append, h]
  rfl
/-! ### all but one address -/
def delH (H : Hp) (d : Addr) : Hp := fun a => if a = d then none else H a
theorem delH_ne {H : Hp} {d a : Addr} (h : a ≠ d) : delH H d a = H a := if_neg h
theorem delH_some {H : Hp} {d a : Addr} {o : HO} (h : delH H d a = some o) : a ≠ d ∧ H a = some o := by
  unfold delH at h
  split at h
  · cases h
  · exact ⟨by assumption, h⟩
theorem same_delH {H : Hp} {d : Addr} : Same (delH H d) H := fun a o h => (delH_some h).2
theorem del_trans {H H1 H2 : Hp} {d : Addr} (h : Same (delH H d) H1) (k : Same (delH H1 d) H2) : Same (delH H d) H2 := fun a o e => k _ _ (by rw [delH_ne (delH_some e).1]; exact h _ _ e)
theorem del_put {H H1 : Hp} {d : Addr} {o : HO} (h : Same (delH H d) H1) : Same (delH H d) (upd H1 d o) := fun a u e => by
  rw [upd_ne (delH_some e).1]
  exact h _ _ e
class Nd (P : V → Hp → Prop) : Prop where
  nd : ∀ {v : V} {H : Hp} {d : Addr} {kvs : List (List Key × V)}, H d = some (.dT kvs) → P v H → P v (delH H d)
theorem delH_at {H : Hp} {d a : Addr} {kvs : List (List Key × V)} {o : HO} (hd : H d = some (.dT kvs)) (h : H a = some o) (hk : o ≠ .dT kvs) : delH H d a = some o := by
  rw [delH_ne]
  · exact h
  · intro e
    rw [e, hd] at h
    exact hk (Option.some.inj h).symm
instance (n : Int) : Nd (RN n) := ⟨fun _ h => h⟩
theorem each_nd {α : Type} {R : α → V → Hp → Prop} [i : ∀ x, Nd (R x)] {H : Hp} {d : Addr} {kvs : List (List Key × V)} (hd : H d = some (.dT kvs)) : ∀ {xs : List α} {vs : List V}, Each R xs vs H → Each R xs vs (delH H d)
  | [], [], _ => trivial
  | x :: _, _ :: _, ⟨a, b⟩ => ⟨(i x).nd hd a, each_nd hd b⟩
  | [], _ :: _, q => q
  | _ :: _, [], q => q
instance {α : Type} (R : α → V → Hp → Prop) [∀ x, Nd (R x)] (xs : List α) : Nd (IsL R xs) := ⟨fun hd ⟨p, vs, a, b, c⟩ => ⟨p, vs, a, delH_at hd b (by intro z; cases z), each_nd hd c⟩⟩
instance (CS : Addr) (S : CB.MS) : Nd (IsSy CS S) := ⟨fun hd ⟨a, dx, c, r, h1, h2, h3, h4⟩ => ⟨a, dx, c, r, h1, delH_at hd h2 (by intro z; cases z), Nd.nd hd h3, Nd.nd hd h4⟩⟩
instance (CP : Addr) (M : CB.MP) : Nd (IsPr CP M) := ⟨fun hd ⟨a, dx, c, r, h1, h2, h3, h4⟩ => ⟨a, dx, c, r, h1, delH_at hd h2 (by intro z; cases z), Nd.nd hd h3, Nd.nd hd h4⟩⟩
theorem cut_from {δ : Type} (xs : List δ) (k : Nat) : cutG xs (some (k : Int)) none = xs.drop k := by
  have e1 : HT.sIx xs.length 0 (some (k : Int)) = min k xs.length := by
    show (if (k : Int) < 0 then ((k : Int) + (xs.length : Int)).toNat else min (k : Int).toNat xs.length) = _
    rw [if_neg (by omega)]
    congr 1
  have e2 : HT.sIx xs.length xs.length none = xs.length := rfl
  unfold cutG
  rw [e1, e2]
  rcases Nat.le_total k xs.length with h | h
  · rw [Nat.min_eq_left h, List.take_of_length_le (by rw [List.length_drop]; exact Nat.le_refl _)]
  · rw [Nat.min_eq_right h, List.drop_of_length_le (Nat.le_refl _), List.drop_of_length_le h]
    simp
section
variable {σ : L2.St} {H : Hp} {te ta tb tc tl : TE} {A : List V → Hp → Prop} {K : PySem.W.Frag} {D : Ends}
theorem y_notin {p : List Int} {i : Nat} {d : Addr} {kvs : List (List Key × V)} {found : List (List Int)} (hp : Y te σ H (IsTs p)) (hi : σ[i]? = some (some (.ref d))) (hd : H d = some (.dT kvs)) (hk : Keys found kvs) : Y (tDNotIn te (tVar i)) σ H (IsB (!found.contains p)) := fun H1 e Q q =>
  hp H1 e _ fun v H2 e2 ⟨b, h1, h2⟩ => ⟨_, hi, d, _, rfl, .inr ⟨kvs, p.map Sum.inl, b, .inl (e2 _ _ (e _ _ hd)), h1, by rw [h2, List.map_map]; rfl, rfl⟩, q _ H2 e2 (by rw [keys_has hk]; rfl)⟩
end
end WK

/- WkP3 -/
/-! The search, walked. -/
namespace WK
open PySem PySem.Spec PyProof.Rows L2
theorem s_callG {σ : L2.St} {H : Hp} {D : Ends} {A : List V → Hp → Prop} {sp : Sp} {E : XK} {ta : TA} (h : YA ta σ H A) (k : ∀ vs H1, Same H H1 → A vs H1 → sp vs H1 (fun _ H' => D.nx σ H') E) : tDrop (tCall sp [] E ta) D σ H :=
  h H (Same.refl _) _ fun vs H1 e a => by
    rw [List.append_nil]
    exact k vs H1 e a
section
variable {P : Program} {w : World} {K : PySem.W.Frag} {mg : Str → Option Value} {base : Heap} {CI CC CS CP : Addr}
theorem DefAt.okG {x : Str} {st : Stmt} {ps N : List Str} {k : Nat} {sp : Sp} (D : DefAt K mg x st ps) (S : FnScope N ps (defScope st))
    (len : ∀ vs H Q E, sp vs H Q E → vs.length = ps.length)
    (body : ∀ (f : Addr) (cdv : Value) (A : Around) (outer : List Env) (s : Shared) (H : Hp) (vs : List V) (E : XK) (Q : VK), Room k (A.deeper (envOfC x (defScope st) s.heap.objs.size f cdv)) → sp vs H Q E →
      ∃ t, PSs (cxOf CX0 P w K mg base N x (defScope st) f cdv A outer s H E).nox (defBody st) t ∧ t { nx := fun _ H' => Q .non H', rt := Q } (start N vs) H) :
    Dk P w K mg base (k + 1) x ps sp := by
  obtain ⟨f, fd, hg, F, b⟩ := D.ex
  exact ⟨f, fd, hg, F.kp, F.ok S len (fun cdv A outer s H vs Q E hr h => body f cdv A outer s H vs E Q hr h), b⟩
def SpSearch (CS CP : Addr) (j : Nat) : Sp := fun vs H Q _ => ∃ (n : Nat) (M : CB.MP) (E : List (List Int)) (S : CB.MS) (conds found : List (List Int)) (mv sv cv : V) (d : Addr) (kvs : List (List Key × V)), vs = [mv, sv, cv, .ref d] ∧ SchOk n j E S conds ∧ M.width = n ∧ M.rows.length ≤ 1000 ∧ (∀ r ∈ M.rows, r.length = n + 1 ∧ BdL 11 r) ∧ IsPr CP M mv H ∧ IsSy CS S sv H ∧ IsL (IsL RN) conds cv H ∧ H d = some (.dT kvs) ∧ Keys found kvs ∧ found.length + cnt j conds.length ≤ 100000 ∧
  ∀ H' kvs', Same (delH H d) H' → H' d = some (.dT kvs') → Keys (CB.search (CB.keepM M.rows) j S conds found) kvs' → Q .non H'
theorem spSearch_len {CS CP : Addr} {j : Nat} (vs : List V) (H : Hp) (Q : VK) (E : XK) (h : SpSearch CS CP j vs H Q E) : vs.length = 4 := by
  obtain ⟨n, M, EE, S, conds, found, mv, sv, cv, d, kvs, e, _⟩ := h
  rw [e]
  rfl
theorem sc_search_corners : FnScope ["program", "system", "conditions", "found", "lacking", "point", "place", "wider"] ["program", "system", "conditions", "found"] (defScope (top 47)) := ⟨rfl, rfl, rfl, by decide +kernel, rfl, by decide +kernel, by decide +kernel⟩
theorem d_search0 (T : Txt K mg CI CC CS CP) (D_keeps_to : Dk P w K mg base 2 "keeps_to" ["program", "point"] (SpKeep CP)) (D_System_solution : Dm P w K mg base 3 CS "solution" ["self"] (SpSol CS)) : Dk P w K mg base 4 "search_corners" ["program", "system", "conditions", "found"] (SpSearch CS CP 0) := by
  refine T.d_search_corners.okG (N := ["program", "system", "conditions", "found", "lacking", "point", "place", "wider"]) sc_search_corners spSearch_len ?_
  intro f cdv A outer s H vs E Q hr ⟨n, M, EE, S, conds, found, mv, sv, cv, d, kvs, e1, ok, hw, hf, hrw, hM, hS, hC, hd, hk, hlen, q⟩
  subst e1
  have hcnt := ok.o.R.count
  have hsame := ok.o.R.same
  have hc := ok.c
  have hn := ok.hn
  have pt := sol_PtB ok.o (by omega) ok.hn
  refine ⟨_, (pss_cons (ps_set (i := 4) sc_search_corners.nd rfl (.inl rfl) (pe_op op_sub (pe_fld (pv 0) rfl) (pe_callB call_len_seq (by rfl) T.b_len PySem.boot_len (pa_cons (pe_fld (pv 1) rfl) pa_nil)))) (pss_cons (ps_if (pt_cmpR op_eq (pv 4) pe_int (nomark _)) (pss_cons (ps_set (i := 5) sc_search_corners.nd rfl (.inl rfl) (D_System_solution.call0 hr (by omega) T.c_System (pv 1))) (pss_cons (ps_if (PW.pt (pw_and (pt_cmp (pc_dnotin (hu_of hr) (pv 5) (pv 3))) (pw_and1 (pt_val (D_keeps_to.call hr (by omega) (by rfl) (pa_cons (pv 0) (pa_cons (pv 5) pa_nil))))))) (pss_one (ps_dput (hu_of hr) (pv 3) (pv 5) pe_bl rfl)) pss_nil) (pss_one ps_retN))) pss_nil) (pss_one ps_never))), ?_⟩
  refine s_set (y_I0 (y_width T (y_var rfl hM)) (y_len (ya_cons (y_srows T (y_var rfl hS)) ya_nil))) fun u1 H1 s1 p1 => ?_
  have e0 : (M.width : Int) - (S.rows.length : Int) = 0 := by omega
  rw [e0] at p1
  cases p1
  refine s_if (b := true) (YT.to (yt_test (y_eqI (y_val rfl) y_c)) (by decide)) (fun _ H2 s2 => ?_) (fun h => by cases h)
  have s12 := s1.trans s2
  refine s_set (y_methS (n, EE, S) ⟨ok.o, by show EE.length = n; omega, hn⟩ (y_var rfl (Mono.mono s12 hS)) (fun _ _ => rfl) ya_nil fun v vs H' i a => ⟨v, vs, rfl, i, a⟩) fun u3 H3 s3 p3 => s_seq ?_
  have s13 := s12.trans s3
  have fin : ∀ H', Same (delH H d) H' → (∃ kvs', H' d = some (.dT kvs') ∧ Keys (CB.search (CB.keepM M.rows) 0 S conds found) kvs') → Q .non H' := fun H' h1 ⟨kvs', h2, h3⟩ => q H' kvs' h1 h2 h3
  have kp : KpOk M (CB.lowestPoint S.numbers) := ⟨hf, by rw [hw]; exact hrw, by rw [hw]; exact pt.1, by omega, pt.2.1⟩
  refine s_if1 ((yt_and (yt_B (y_notin (y_var rfl p3) rfl (s13 _ _ hd) hk)) fun _ => yt_B (y_call (M, CB.lowestPoint S.numbers) kp (ya_cons (y_var rfl (Mono.mono s13 hM)) (ya_cons (y_var rfl p3) ya_nil))))) (fun h H4 s4 => ?_) fun h H4 s4 => fin H4 (same_delH.trans (s13.trans s4)) ⟨kvs, s4 _ _ (s13 _ _ hd), ?_⟩
  · rw [Bool.and_eq_true] at h
    have hnc := not_t h.1
    have p3' : IsTs (CB.lowestPoint S.numbers) u3 H4 := Mono.mono s4 p3
    have hd4 : H4 d = some (.dT kvs) := s4 _ _ (s13 _ _ hd)
    obtain ⟨b, rfl, hb⟩ := p3'
    refine ⟨_, rfl, _, rfl, d, _, rfl, .inr ⟨kvs, (CB.lowestPoint S.numbers).map Sum.inl, b, hd4, rfl, by rw [hb, List.map_map]; rfl, ?_, rfl⟩, ?_⟩
    · have : kvs.length = found.length := by
        have := congrArg List.length hk
        rwa [List.length_map, List.length_map] at this
      rw [this]
      exact Nat.lt_of_le_of_lt (Nat.le_trans (Nat.le_add_right _ _) hlen) (by decide)
    · refine fin _ (del_put (same_delH.trans (s13.trans s4))) ⟨_, upd_same, ?_⟩
      have : CB.search (CB.keepM M.rows) 0 S conds found = found ++ [CB.lowestPoint S.numbers] := by
        unfold CB.search
        rw [if_pos (by rw [hnc, h.2]; rfl)]
      rw [this]
      exact keys_put hk hnc _
  · have : CB.search (CB.keepM M.rows) 0 S conds found = found := by
      unfold CB.search
      rw [if_neg (by rw [h]; decide)]
    rw [this]
    exact hk
theorem d_searchS (j : Nat) (T : Txt K mg CI CC CS CP) (D_keeps_to : Dk P w K mg base 2 "keeps_to" ["program", "point"] (SpKeep CP)) (D_System_solution : Dm P w K mg base 3 CS "solution" ["self"] (SpSol CS)) (D_System_with_equation : Dm P w K mg base 3 CS "with_equation" ["self", "equation"] (SpWith CS))
    (D_search_corners : Dk P w K mg base (4 + j) "search_corners" ["program", "system", "conditions", "found"] (SpSearch CS CP j)) : Dk P w K mg base (4 + j + 1) "search_corners" ["program", "system", "conditions", "found"] (SpSearch CS CP (j + 1)) := by
  refine T.d_search_corners.okG (N := ["program", "system", "conditions", "found", "lacking", "point", "place", "wider"]) sc_search_corners spSearch_len ?_
  intro f cdv A outer s H vs E Q hr ⟨n, M, EE, S, conds, found, mv, sv, cv, d, kvs, e1, ok, hw, hf, hrw, hM, hS, hC, hd, hk, hlen, q⟩
  subst e1
  have hcnt := ok.o.R.count
  have hsame := ok.o.R.same
  have hc := ok.c
  have hn := ok.hn
  have few := ok.few
  refine ⟨_, (pss_cons (ps_set (i := 4) sc_search_corners.nd rfl (.inl rfl) (pe_op op_sub (pe_fld (pv 0) rfl) (pe_callB call_len_seq (by rfl) T.b_len PySem.boot_len (pa_cons (pe_fld (pv 1) rfl) pa_nil)))) (pss_cons (ps_if (pt_cmpR op_eq (pv 4) pe_int (nomark _)) (pss_cons (ps_set (i := 5) sc_search_corners.nd rfl (.inl rfl) (D_System_solution.call0 hr (by omega) T.c_System (pv 1))) (pss_cons (ps_if (PW.pt (pw_and (pt_cmp (pc_dnotin (hu_of hr) (pv 5) (pv 3))) (pw_and1 (pt_val (D_keeps_to.call hr (by omega) (by rfl) (pa_cons (pv 0) (pa_cons (pv 5) pa_nil))))))) (pss_one (ps_dput (hu_of hr) (pv 3) (pv 5) pe_bl rfl)) pss_nil) (pss_one ps_retN))) pss_nil) (pss_one (ps_for PassesOwn.never rfl (pi_range1 (by rfl) T.b_range (pa_cons (pe_op op_add (pe_op op_sub (pe_callB call_len_seq (by rfl) T.b_len PySem.boot_len (pa_cons (pv 2) pa_nil)) (pv 4)) pe_int) pa_nil)) (pg_name (i := 6) sc_search_corners.nd rfl (.inl rfl)) (pss_cons (ps_set (i := 7) sc_search_corners.nd rfl (.inl rfl) (D_System_with_equation.call hr (by omega) T.c_System (pv 1) (pa_cons (pe_ix ix_list (pv 2) (pv 6) (fun _ _ => rfl)) pa_nil))) (pss_one (ps_if (pt_cmp (pc_notN (pv 7))) (pss_one (ps_expr (D_search_corners.call hr (by omega) (by rfl) (pa_cons (pv 0) (pa_cons (pv 7) (pa_cons (pe_slice sl_list (pv 2) (po_some (pe_op op_add (pv 6) pe_int)) po_none) (pa_cons (pv 3) pa_nil))))))) pss_nil))))))), ?_⟩
  refine s_set (y_I0 (y_width T (y_var rfl hM)) (y_len (ya_cons (y_srows T (y_var rfl hS)) ya_nil))) fun u1 H1 s1 p1 => ?_
  have e0 : (M.width : Int) - (S.rows.length : Int) = (j : Int) + 1 := by omega
  rw [e0] at p1
  cases p1
  refine s_if (b := false) (YT.to (yt_test (y_eqI (y_val rfl) y_c)) (decide_eq_false (by omega))) (fun h => by cases h) fun _ H2 s2 => ?_
  have s12 := s1.trans s2
  have hM' : IsPr CP M mv (delH H d) := Nd.nd hd hM
  have hS' : IsSy CS S sv (delH H d) := Nd.nd hd hS
  have hC' : IsL (IsL RN) conds cv (delH H d) := Nd.nd hd hC
  have etn : (((conds.length : Nat) : Int) - ((j : Int) + 1) + 1).toNat = conds.length - j := by omega
  refine s_forR (n := ((conds.length : Nat) : Int) - ((j : Int) + 1) + 1) (by omega) (by omega) (ya_cons (y_I0 (y_I0 (y_len (ya_cons (y_var rfl (Mono.mono s12 hC)) ya_nil)) (y_val rfl)) y_c) ya_nil) (fun k σ' H' => ∃ z6 z7 kvs', σ' = [some mv, some sv, some cv, some (.ref d), some (.int ((j : Int) + 1)), none, z6, z7] ∧ Same (delH H d) H' ∧ H' d = some (.dT kvs') ∧ Keys ((List.range k).foldl (stepS (CB.keepM M.rows) j S conds) found) kvs')
    (fun H3 s3 => ⟨none, none, kvs, rfl, same_delH.trans (s12.trans s3), s3 _ _ (s12 _ _ hd), hk⟩) ?_ ?_
  · rintro k hk1 σ' H' ⟨z6, z7, kvs', rfl, g1, g2, g3⟩
    rw [etn] at hk1
    dsimp only [List.set]
    have hkl : k < conds.length := by omega
    have hm := ok.r _ (getD_mem hkl)
    have hgl := gath_mono j conds.length (show k + 1 ≤ conds.length - j by omega)
    rw [gath_all, gath_succ] at hgl
    have hsl := step_len (CB.keepM M.rows) j S conds found k
    have hrs : (List.range (k + 1)).foldl (stepS (CB.keepM M.rows) j S conds) found = stepS (CB.keepM M.rows) j S conds ((List.range k).foldl (stepS (CB.keepM M.rows) j S conds) found) k := by
      rw [List.range_succ, List.foldl_append]
      rfl
    have hget : conds[k]? = some (conds.getD k []) := by
      rw [List.getD_eq_getElem?_getD, List.getElem?_eq_getElem hkl]
      rfl
    refine s_set (y_methS (S, conds.getD k []) ⟨n + 1, EE, ok.o, hm.1, hm.2, by omega, by omega⟩ (y_var rfl (Mono.mono g1 hS')) (fun _ _ => rfl) (ya_cons (y_ixR (y_var rfl (Mono.mono g1 hC')) (y_val rfl) rfl hget) ya_nil) fun v vs H' i a => ⟨v, vs, rfl, i, a⟩) fun u3 H3 s3 p3 => ?_
    have g13 := g1.trans s3
    cases hwd : S.wider (conds.getD k []) with
    | none =>
      have p3' : OutW CS (S.wider (conds.getD k [])) u3 H3 := p3
      rw [hwd] at p3'
      cases p3'
      refine s_if1 (b := false) (YT.to (yt_B (y_notN (y_val rfl))) rfl) (fun h => by cases h) fun _ H4 s4 => ⟨_, _, kvs', rfl, g13.trans s4, s4 _ _ (s3 _ _ g2), ?_⟩
      rw [hrs]
      unfold stepS
      rw [hwd]
      exact g3
    | some S' =>
      have p3' : OutW CS (S.wider (conds.getD k [])) u3 H3 := p3
      rw [hwd] at p3'
      have p4 : IsSy CS S' u3 H3 := p3'
      have hun : ∃ a, u3 = .ref a := by
        obtain ⟨a, _, _, _, e, _⟩ := p4
        exact ⟨a, e⟩
      refine s_if1 (b := true) (YT.to (yt_B (y_notN (y_val rfl))) (by obtain ⟨a, rfl⟩ := hun; rfl)) (fun _ H4 s4 => ?_) (fun h => by cases h)
      have g14 := g13.trans s4
      refine s_callG (ya_cons (y_var rfl (Mono.mono g14 hM')) (ya_cons (y_var rfl (Mono.mono s4 p4)) (ya_cons (Y.toL (YO.y (yo_sl (R := IsL RN) (hi := none) (y_var rfl (Mono.mono g14 hC')) (yp_some (Y.toN (y_I0 (y_val rfl) y_c) (show (k : Int) + 1 = ((k + 1 : Nat) : Int) by omega))) yp_none)) (cut_from conds (k + 1))) (ya_cons (y_val rfl) ya_nil)))) fun vs H5 s5 ⟨v1, r1, e1, q1, v2, r2, e2, q2, v3, r3, e3, q3, v4, r4, e4, q4, e5⟩ => ?_
      subst e1 e2 e3 e4 e5
      cases q4
      have g15 := g14.trans s5
      have hd5 : H5 d = some (.dT kvs') := s5 _ _ (s4 _ _ (s3 _ _ g2))
      refine ⟨n, M, conds.getD k [] :: EE, S', conds.drop (k + 1), (List.range k).foldl (stepS (CB.keepM M.rows) j S conds) found, v1, v2, v3, d, kvs', rfl, ok.step hkl hwd, hw, hf, hrw, q1, q2, q3, hd5, g3, ?_, fun H6 kvs6 h1 h2 h3 => ⟨_, _, kvs6, rfl, del_trans g15 h1, h2, ?_⟩⟩
      · rw [List.length_drop]
        omega
      · rw [hrs]
        unfold stepS
        rw [hwd]
        exact h3
  · rintro σ' H' ⟨z6, z7, kvs', rfl, g1, g2, g3⟩
    rw [etn] at g3
    exact q H' kvs' g1 g2 g3
theorem d_search (T : Txt K mg CI CC CS CP) (D_keeps_to : Dk P w K mg base 2 "keeps_to" ["program", "point"] (SpKeep CP)) (D_System_solution : Dm P w K mg base 3 CS "solution" ["self"] (SpSol CS)) (D_System_with_equation : Dm P w K mg base 3 CS "with_equation" ["self", "equation"] (SpWith CS)) : ∀ j, Dk P w K mg base (4 + j) "search_corners" ["program", "system", "conditions", "found"] (SpSearch CS CP j)
  | 0 => d_search0 T D_keeps_to D_System_solution
  | j + 1 => d_searchS j T D_keeps_to D_System_solution D_System_with_equation (d_search T D_keeps_to D_System_solution D_System_with_equation j)
end
end WK

/- WkP4 -/
/-! Corners, rays, status. -/
namespace WK
open PySem PySem.Spec PyProof.Rows L2
/-! ### what is asked of a program's rows -/
theorem signRow_ok (n j : Nat) : (CB.signRow n j).length = n + 1 ∧ BdL 11 (CB.signRow n j) := by
  unfold CB.signRow
  refine ⟨by rw [List.length_set, List.length_replicate], fun x hx => ?_⟩
  rcases List.mem_or_eq_of_mem_set hx with h | h
  · rw [List.eq_of_mem_replicate h]
    decide
  · rw [h]
    decide
theorem conds_ok {M : CB.MP} (ok : OkM M) : (CB.signRows M.width ++ M.rows).length ≤ 12 ∧ ∀ e ∈ CB.signRows M.width ++ M.rows, e.length = M.width + 1 ∧ BdL 11 e := by
  refine ⟨?_, fun e he => ?_⟩
  · rw [List.length_append]
    unfold CB.signRows
    rw [List.length_map, List.length_range]
    have := ok.w
    have := ok.few
    omega
  · rcases List.mem_append.mp he with h | h
    · unfold CB.signRows at h
      obtain ⟨j, _, rfl⟩ := List.mem_map.mp h
      exact signRow_ok _ _
    · exact ok.r e h
theorem OkM.cone {M : CB.MP} (ok : OkM M) : OkM (CB.coneM M) := by
  refine ⟨ok.w, by show (M.rows.map _).length ≤ 6; rw [List.length_map]; exact ok.few, fun r hr => ?_, ok.g, ok.gb⟩
  obtain ⟨q, hq, rfl⟩ := List.mem_map.mp hr
  obtain ⟨h1, h2⟩ := ok.r q hq
  refine ⟨by rw [List.length_append, List.length_dropLast, h1]; rfl, BdL.app h2.init fun x hx => ?_⟩
  rw [List.mem_singleton.mp hx]
  decide
theorem OkM.dual {M : CB.MP} (ok : OkM M) : OkM (CB.dualM M) := by
  refine ⟨ok.few, ?_, fun r hr => ?_, ?_, fun x hx => ?_⟩
  · show ((List.range M.width).map _).length ≤ 6
    rw [List.length_map, List.length_range]
    exact ok.w
  · obtain ⟨j, hj, rfl⟩ := List.mem_map.mp hr
    refine ⟨by rw [List.length_append, List.length_map]; rfl, BdL.app (fun x hx => ?_) fun x hx => ?_⟩
    · obtain ⟨q, hq, rfl⟩ := List.mem_map.mp hx
      rw [Int.natAbs_neg]
      exact (ok.r q hq).2.get j
    · rw [List.mem_singleton.mp hx]
      exact ok.gb.get j
  · show (M.rows.map _).length = M.rows.length
    rw [List.length_map]
  · obtain ⟨q, hq, rfl⟩ := List.mem_map.mp hx
    exact (ok.r q hq).2.last
theorem oneRow_ok (n : Nat) : (CB.oneRow n).length = n + 1 ∧ BdL 11 (CB.oneRow n) := by
  unfold CB.oneRow
  refine ⟨by rw [List.length_append, List.length_replicate]; rfl, BdL.app (fun x hx => ?_) fun x hx => ?_⟩
  · rw [List.eq_of_mem_replicate hx]
    decide
  · rw [List.mem_singleton.mp hx]
    decide
theorem sch_corners {M : CB.MP} (ok : OkM M) : SchOk M.width M.width [] CB.MS.empty (CB.signRows M.width ++ M.rows) :=
  ⟨SyOk.empty _, by simp, ok.w, (conds_ok ok).1, (conds_ok ok).2⟩
theorem red_one {M : CB.MP} (ok : OkM M) : RedOk (M.width + 1) [] CB.MS.empty (CB.oneRow M.width) := ⟨SyOk.empty _, (oneRow_ok _).1, (oneRow_ok _).2, by decide, by have := ok.w; omega⟩
theorem sch_rays {M : CB.MP} (ok : OkM M) {one : CB.MS} (h : CB.MS.empty.wider (CB.oneRow M.width) = some one) : SchOk M.width (M.width - 1) [CB.oneRow M.width] one (CB.signRows M.width ++ (CB.coneM M).rows) := by
  have hw : M.width ≠ 0 := fun z => by
    rw [z, CB.one_wider_zero] at h
    cases h
  have r := red_one ok
  exact ⟨r.o.wider r.le r.be (by decide) h, by show 1 + _ = _; omega, ok.w, (conds_ok ok.cone).1, (conds_ok ok.cone).2⟩
theorem search_few {keep : List Int → Bool} {n j : Nat} {E : List (List Int)} {S : CB.MS} {conds : List (List Int)} (o : SchOk n j E S conds) : (CB.search keep j S conds []).length ≤ 924 := by
  have h := search_len keep j S conds []
  have := cnt_le j (by have := o.c; have := o.hn; omega) conds.length (by have := o.few; omega)
  simp only [List.length_nil, Nat.zero_add] at h
  omega
theorem corners_pts {M : CB.MP} (ok : OkM M) : PtsB M.width (CB.cornersM M) := ⟨Nat.le_trans (search_few (sch_corners ok)) (by decide), search_pts M.width (sch_corners ok) fun p hp => absurd hp List.not_mem_nil⟩
theorem rays_pts {M : CB.MP} (ok : OkM M) : PtsB M.width (CB.raysM M) := by
  unfold CB.raysM
  split
  · exact ⟨by decide, fun p hp => absurd hp List.not_mem_nil⟩
  · rename_i one h
    exact ⟨Nat.le_trans (search_few (sch_rays ok h)) (by decide), search_pts _ (sch_rays ok h) fun p hp => absurd hp List.not_mem_nil⟩
theorem improving_pts {M : CB.MP} (ok : OkM M) : PtsB M.width (CB.improvingM M) := by
  have := rays_pts ok
  unfold CB.improvingM
  exact ⟨Nat.le_trans (List.length_filter_le _ _) this.1, fun p hp => this.2 p (List.mem_filter.mp hp).1⟩
theorem keys_each {H : Hp} : ∀ {found : List (List Int)} {kvs : List (List Key × V)} {bs : List Addr}, Keys found kvs → IsKeys H kvs bs → Each IsTs found (bs.map V.ref) H
  | [], [], _, _, h => by
    cases h
    trivial
  | p :: found, kv :: kvs, _, hk, h => by
    cases h with
    | cons a b =>
      unfold Keys at hk
      rw [List.map_cons, List.map_cons, List.cons.injEq] at hk
      refine ⟨⟨_, rfl, ?_⟩, keys_each hk.2 b⟩
      rw [a, hk.1, List.map_map]
      rfl
  | [], _ :: _, _, hk, _ => by cases hk
  | _ :: _, [], _, hk, _ => by cases hk
section
variable {P : Program} {w : World} {K : PySem.W.Frag} {mg : Str → Option Value} {base : Heap} {CI CC CS CP : Addr}
theorem s_newT {σ : L2.St} {H : Hp} {D : Ends} {u : TS} {i : Nat} (k : ∀ d, H d = none → u D (σ.set i (some (.ref d))) (upd H d (.dT []))) : tSeq (tAsg tDNewT (gName i)) u D σ H := fun p hp => k p hp
structure CfOk (n j : Nat) (E : List (List Int)) (S : CB.MS) (M : CB.MP) : Prop where
  ok : OkM M
  w : M.width = n
  s : SchOk n j E S (CB.signRows M.width ++ M.rows)
abbrev SpFrom (CS CP : Addr) : Sp := SpF (fun a => CfOk a.1 a.2.1 a.2.2.1 a.2.2.2.1 a.2.2.2.2) (fun (a : Nat × Nat × List (List Int) × CB.MS × CB.MP) => AC (IsPr CP a.2.2.2.2) (AC (IsSy CS a.2.2.2.1) AN)) (fun a => IsPs (CB.search (CB.keepM a.2.2.2.2.rows) a.2.1 a.2.2.2.1 (CB.signRows a.2.2.2.2.width ++ a.2.2.2.2.rows) []))
theorem sc_corners_from : FnScope ["program", "system", "found"] ["program", "system"] (defScope (top 48)) := ⟨rfl, rfl, rfl, by decide +kernel, rfl, by decide +kernel, by decide +kernel⟩
theorem d_corners_from (T : Txt K mg CI CC CS CP) (D_sign_rows : Dk P w K mg base 1 "sign_rows" ["width"] SpSign) (D_search : ∀ j, Dk P w K mg base (4 + j) "search_corners" ["program", "system", "conditions", "found"] (SpSearch CS CP j)) : Dk P w K mg base 11 "corners_from" ["program", "system"] (SpFrom CS CP) := by
  refine T.d_corners_from.ok (N := ["program", "system", "found"]) sc_corners_from (fun a vs H h => len2 h) ?_
  intro f cdv A outer s H vs E ⟨n, j, EE, S, M⟩ hr ⟨ok, hw, so⟩ ⟨v, r, e1, hv, v2, r2, e2, hv2, e3⟩
  subst e1 e2 e3
  dsimp only at ok hw so hv hv2
  have hj : j ≤ 6 := by have := so.c; have := so.hn; omega
  have D_search_corners := D_search j
  have okw := ok.w
  have few := ok.few
  refine ⟨_, (pss_cons (ps_set (i := 2) sc_corners_from.nd rfl (.inl rfl) pe_dnewT) (pss_cons (ps_expr (D_search_corners.call hr (by omega) (by rfl) (pa_cons (pv 0) (pa_cons (pv 1) (pa_cons (pe_op op_cat (D_sign_rows.call hr (by omega) (by rfl) (pa_cons (pe_fld (pv 0) rfl) pa_nil)) (pe_fld (pv 0) rfl)) (pa_cons (pv 2) pa_nil)))))) (pss_one (ps_ret (pe_callTy (call_list_dT rfl) (by rfl) T.b_list (by decide +kernel) (pa_cons (pv 2) pa_nil)))))), fun Q q => ?_⟩
  refine s_newT fun d hd => s_seq ?_
  have s0 : Same H (upd H d (.dT [])) := Same.new hd
  have hsl : (CB.signRows M.width).length = M.width := by
    unfold CB.signRows
    rw [List.length_map, List.length_range]
  refine s_callG (ya_cons (y_var rfl (Mono.mono s0 hv)) (ya_cons (y_var rfl (Mono.mono s0 hv2)) (ya_cons (YO.y (yo_cat (R := IsL RN) (y_call M.width (Nat.le_trans ok.w (by decide)) (ya_cons (y_width T (y_var rfl (Mono.mono s0 hv))) ya_nil)) (y_rows T (y_var rfl (Mono.mono s0 hv))) (by rw [hsl]; omega))) (ya_cons (y_val rfl) ya_nil)))) fun vs H5 s5 ⟨v1, r1, e1, q1, v2, r2, e2, q2, v3, r3, e3, q3, v4, r4, e4, q4, e5⟩ => ?_
  subst e1 e2 e3 e4 e5
  cases q4
  have hd5 : H5 d = some (.dT []) := s5 _ _ upd_same
  have hc := cnt_le j (by omega) (CB.signRows M.width ++ M.rows).length (by have := so.few; omega)
  refine ⟨n, M, EE, S, _, [], _, _, _, d, [], rfl, so, hw, by omega, by rw [← hw]; exact ok.r, q1, q2, q3, hd5, rfl, by show 0 + _ ≤ _; omega, fun H6 kvs6 h1 h2 h3 => ?_⟩
  have s6 : Same H H6 := fun a o e => h1 _ _ (by
    rw [delH_ne (fun z => by rw [z, hd] at e; cases e)]
    exact s5 _ _ (s0 _ _ e))
  dsimp only
  refine s_ret (P := IsPs (CB.search (CB.keepM M.rows) j S (CB.signRows M.width ++ M.rows) [])) (y_cb (ya_cons (y_val rfl) ya_nil) fun vs H7 s7 ⟨v, r, e1, e2, e3⟩ Q' q' => ?_) fun u8 H8 s8 p8 => q u8 H8 (s6.trans s8) p8
  subst e1 e3
  cases e2
  exact ⟨d, kvs6, rfl, .inl (s7 _ _ h2), fun p bs hp hb => q' _ _ (Same.new hp) ⟨p, _, rfl, upd_same, Each.mono (Same.new hp) (keys_each h3 hb)⟩⟩
abbrev SpCor (CP : Addr) (g : CB.MP → List (List Int)) : Sp := SpF OkM (fun (M : CB.MP) => AC (IsPr CP M) AN) (fun M => IsPs (g M))
theorem sc_corners_of : FnScope ["program"] ["program"] (defScope (top 49)) := ⟨rfl, rfl, rfl, by decide +kernel, rfl, by decide +kernel, by decide +kernel⟩
theorem d_corners_of (T : Txt K mg CI CC CS CP) (D_System : Di P w K mg base 1 CS ["self", "pivot", "columns", "rows"] (SpISy CS)) (D_corners_from : Dk P w K mg base 11 "corners_from" ["program", "system"] (SpFrom CS CP)) : Dk P w K mg base 12 "corners_of" ["program"] (SpCor CP CB.cornersM) := by
  refine T.d_corners_of.ok (N := ["program"]) sc_corners_of (fun a vs H h => len1 h) ?_
  intro f cdv A outer s H vs E M hr ok ⟨v, r, e1, hv, e2⟩
  subst e1 e2
  refine ⟨_, (pss_one (ps_ret (D_corners_from.call hr (by decide) (by rfl) (pa_cons (pv 0) (pa_cons (D_System.call hr (by decide) (by rfl) T.g_System (pa_cons pe_int (pa_cons (pe_lst pa_nil) (pa_cons (pe_lst pa_nil) pa_nil)))) pa_nil))))), fun Q q => ?_⟩
  exact s_ret (y_call (M.width, M.width, [], CB.MS.empty, M) ⟨ok, rfl, sch_corners ok⟩ (ya_cons (y_var rfl hv) (ya_cons (YO.y (yo_system CB.MS.empty y_c y_list0 (YO.y yo_listE))) ya_nil))) q
theorem sc_rays_of : FnScope ["program", "one"] ["program"] (defScope (top 51)) := ⟨rfl, rfl, rfl, by decide +kernel, rfl, by decide +kernel, by decide +kernel⟩
theorem d_rays_of (T : Txt K mg CI CC CS CP) (D_System : Di P w K mg base 1 CS ["self", "pivot", "columns", "rows"] (SpISy CS)) (D_cone_of : Dk P w K mg base 3 "cone_of" ["program"] (SpCone CP)) (D_System_with_equation : Dm P w K mg base 3 CS "with_equation" ["self", "equation"] (SpWith CS)) (D_corners_from : Dk P w K mg base 11 "corners_from" ["program", "system"] (SpFrom CS CP)) : Dk P w K mg base 12 "rays_of" ["program"] (SpCor CP CB.raysM) := by
  refine T.d_rays_of.ok (N := ["program", "one"]) sc_rays_of (fun a vs H h => len1 h) ?_
  intro f cdv A outer s H vs E M hr ok ⟨v, r, e1, hv, e2⟩
  subst e1 e2
  have okw := ok.w
  refine ⟨_, (pss_cons (ps_set (i := 1) sc_rays_of.nd rfl (.inl rfl) (D_System_with_equation.call hr (by decide) T.c_System (D_System.call hr (by decide) (by rfl) T.g_System (pa_cons pe_int (pa_cons (pe_lst pa_nil) (pa_cons (pe_lst pa_nil) pa_nil)))) (pa_cons (pe_op op_cat (pe_op op_rep (pe_lst (pa_cons pe_int pa_nil)) (pe_fld (pv 0) rfl)) (pe_lst (pa_cons (pe_un un_neg pe_int) pa_nil))) pa_nil))) (pss_cons (ps_if (pt_cmp (pc_isN (pv 1))) (pss_one (ps_ret (pe_lst pa_nil))) pss_nil) (pss_one (ps_ret (D_corners_from.call hr (by decide) (by rfl) (pa_cons (D_cone_of.call hr (by decide) (by rfl) (pa_cons (pv 0) pa_nil)) (pa_cons (pv 1) pa_nil))))))), fun Q q => ?_⟩
  have hnn : ((M.width : Int)).toNat = M.width := by omega
  refine s_set (y_methS (CB.MS.empty, CB.oneRow M.width) ⟨_, _, red_one ok⟩ (YO.y (yo_system CB.MS.empty y_c y_list0 (YO.y yo_listE))) (fun _ _ => rfl) (ya_cons (Y.toL (YO.y (yo_cat (R := RN) (YO.y (yo_rep (n := 1) (y_list1 y_c) (y_width T (y_var rfl hv)) (by omega) (by omega))) (y_list1 (y_un y_c)) (by rw [hnn, List.length_replicate, List.length_singleton]; omega))) (by rw [hnn]; rfl)) ya_nil) fun v vs H' i a => ⟨v, vs, rfl, i, a⟩) fun u1 H1 s1 p1 => ?_
  have p1' : OutW CS (CB.MS.empty.wider (CB.oneRow M.width)) u1 H1 := p1
  cases hwd : CB.MS.empty.wider (CB.oneRow M.width) with
  | none =>
    rw [hwd] at p1'
    cases p1'
    refine s_if (b := true) (YT.to (yt_B (y_isN (y_val rfl))) rfl) (fun h H3 s3 => s_ret (P := IsPs []) (YO.y yo_listE) fun u H4 s4 p => q u H4 ((s1.trans s3).trans s4) ?_) (fun h => by cases h)
    unfold CB.raysM
    rw [hwd]
    exact p
  | some one =>
    rw [hwd] at p1'
    have p4 : IsSy CS one u1 H1 := p1'
    have hun : ∃ a, u1 = .ref a := by
      obtain ⟨a, _, _, _, e, _⟩ := p4
      exact ⟨a, e⟩
    refine s_if (b := false) (YT.to (yt_B (y_isN (y_val rfl))) (by obtain ⟨a, rfl⟩ := hun; rfl)) (fun h => by cases h) fun h H3 s3 => s_ret (y_call (M.width, M.width - 1, [CB.oneRow M.width], one, CB.coneM M) ⟨ok.cone, rfl, sch_rays ok hwd⟩ (ya_cons (y_call M ok (ya_cons (y_var rfl (Mono.mono (s1.trans s3) hv)) ya_nil)) (ya_cons (y_var rfl (Mono.mono s3 p4)) ya_nil))) fun u H4 s4 p => q u H4 ((s1.trans s3).trans s4) ?_
    unfold CB.raysM
    rw [hwd]
    exact p
theorem sc_improving_rays_of : FnScope ["program", "ray"] ["program"] (defScope (top 53)) := ⟨rfl, rfl, rfl, by decide +kernel, rfl, by decide +kernel, by decide +kernel⟩
theorem d_improving_rays_of (T : Txt K mg CI CC CS CP) (D_rays_of : Dk P w K mg base 12 "rays_of" ["program"] (SpCor CP CB.raysM)) (D_gains : Dk P w K mg base 2 "gains" ["program", "point"] (SpGains CP)) : Dk P w K mg base 13 "improving_rays_of" ["program"] (SpCor CP CB.improvingM) := by
  refine T.d_improving_rays_of.ok (N := ["program", "ray"]) sc_improving_rays_of (fun a vs H h => len1 h) ?_
  intro f cdv A outer s H vs E M hr ok ⟨v, r, e1, hv, e2⟩
  subst e1 e2
  have rp := rays_pts ok
  refine ⟨_, (pss_one (ps_ret (pe_lc (own := [("ray", 1)]) (g := (gName 1)) rfl sc_improving_rays_of.nd (pi_list (D_rays_of.call hr (by decide) (by rfl) (pa_cons (pv 0) pa_nil))) (blkOk_by (own := [("ray", 1)]) (N := ["program", "ray"]) (sc := defScope (top 53)) (by decide +kernel)) (fun _ _ _ _ _ => (pg_name (i := 1) sc_improving_rays_of.nd rfl (.inl rfl))) (fun _ _ _ _ _ => (pts_one (pt_val (D_gains.call hr (by decide) (by rfl) (pa_cons (pv 0) (pa_cons (pv 1) pa_nil)))))) (fun _ _ _ _ _ => (pv 1))))), fun Q q => ?_⟩
  refine s_ret (Y.toL (y_filter (T := IsTs) (f := id) (p := CB.gains M.goal) rp.1 (y_call M ok (ya_cons (y_var rfl hv) ya_nil)) (fun _ => rfl)
      (fun p hp' x H3 s3 hx => yt_B (y_call (M, p) ⟨ok, rp.2 p hp'⟩ (ya_cons (y_var rfl (Mono.mono s3 hv)) (ya_cons (y_var rfl hx) ya_nil))))
      (fun p hp' x H3 s3 hx => yo_T (y_var rfl hx))) (List.map_id _)) q
abbrev SpImp (CP : Addr) : Sp := SpF (fun a => OkM a.1 ∧ PtB a.1.width a.2) (fun (a : CB.MP × List Int) => AC (IsPr CP a.1) (AC (IsTs a.2) AN)) (fun a => IsB (CB.isImpM a.1 a.2))
theorem OkM.kp {M : CB.MP} (ok : OkM M) {p : List Int} (h : PtB M.width p) : KpOk M p := ⟨Nat.le_trans ok.few (by decide), ok.r, h.1, ok.w, h.2.1⟩
theorem sc_is_improving : FnScope ["program", "point"] ["program", "point"] (defScope (top 54)) := ⟨rfl, rfl, rfl, by decide +kernel, rfl, by decide +kernel, by decide +kernel⟩
theorem d_is_improving (T : Txt K mg CI CC CS CP) (D_cone_of : Dk P w K mg base 3 "cone_of" ["program"] (SpCone CP)) (D_keeps_to : Dk P w K mg base 2 "keeps_to" ["program", "point"] (SpKeep CP)) (D_gains : Dk P w K mg base 2 "gains" ["program", "point"] (SpGains CP)) : Dk P w K mg base 4 "is_improving" ["program", "point"] (SpImp CP) := by
  refine T.d_is_improving.ok (N := ["program", "point"]) sc_is_improving (fun a vs H h => len2 h) ?_
  intro f cdv A outer s H vs E ⟨M, p⟩ hr ⟨ok, pt⟩ ⟨v, r, e1, hv, v2, r2, e2, hv2, e3⟩
  subst e1 e2 e3
  dsimp only at ok pt hv hv2
  refine ⟨_, (pss_one (ps_ret (pe_and (D_keeps_to.call hr (by decide) (by rfl) (pa_cons (D_cone_of.call hr (by decide) (by rfl) (pa_cons (pv 0) pa_nil)) (pa_cons (pv 1) pa_nil))) (pe_one (D_gains.call hr (by decide) (by rfl) (pa_cons (pv 0) (pa_cons (pv 1) pa_nil))))))), fun Q q => ?_⟩
  exact s_ret (y_andV (y_call (CB.coneM M, p) (ok.cone.kp pt) (ya_cons (y_call M ok (ya_cons (y_var rfl hv) ya_nil)) (ya_cons (y_var rfl hv2) ya_nil))) fun _ => y_call (M, p) ⟨ok, pt⟩ (ya_cons (y_var rfl hv) (ya_cons (y_var rfl hv2) ya_nil))) q
abbrev SpStat (CP : Addr) : Sp := SpF OkM (fun (M : CB.MP) => AC (IsPr CP M) AN) (fun M => IsN (CB.statusM M))
theorem sc_status_of : FnScope ["program"] ["program"] (defScope (top 57)) := ⟨rfl, rfl, rfl, by decide +kernel, rfl, by decide +kernel, by decide +kernel⟩
theorem d_status_of (T : Txt K mg CI CC CS CP) (D_corners_of : Dk P w K mg base 12 "corners_of" ["program"] (SpCor CP CB.cornersM)) (D_improving_rays_of : Dk P w K mg base 13 "improving_rays_of" ["program"] (SpCor CP CB.improvingM)) : Dk P w K mg base 14 "status_of" ["program"] (SpStat CP) := by
  refine T.d_status_of.ok (N := ["program"]) sc_status_of (fun a vs H h => len1 h) ?_
  intro f cdv A outer s H vs E M hr ok ⟨v, r, e1, hv, e2⟩
  subst e1 e2
  obtain ⟨_, hg_OPTIMAL⟩ := T.k_OPTIMAL
  obtain ⟨_, hg_UNBOUNDED⟩ := T.k_UNBOUNDED
  obtain ⟨_, hg_INFEASIBLE⟩ := T.k_INFEASIBLE
  refine ⟨_, (pss_cons (ps_if (pt_cmpR op_eq (pe_callB call_len_seq (by rfl) T.b_len PySem.boot_len (pa_cons (D_corners_of.call hr (by decide) (by rfl) (pa_cons (pv 0) pa_nil)) pa_nil)) pe_int (nomark _)) (pss_one (ps_ret (pe_glob (v := .int 1) rfl hg_INFEASIBLE ⟨_, rfl⟩))) pss_nil) (pss_cons (ps_if (pt_cmpR op_gt (pe_callB call_len_seq (by rfl) T.b_len PySem.boot_len (pa_cons (D_improving_rays_of.call hr (by decide) (by rfl) (pa_cons (pv 0) pa_nil)) pa_nil)) pe_int (nomark _)) (pss_one (ps_ret (pe_glob (v := .int 2) rfl hg_UNBOUNDED ⟨_, rfl⟩))) pss_nil) (pss_one (ps_ret (pe_glob (v := .int 0) rfl hg_OPTIMAL ⟨_, rfl⟩))))), fun Q q => ?_⟩
  refine s_if (yt_test (y_eqI (y_len (R := IsTs) (ya_cons (y_call M ok (ya_cons (y_var rfl hv) ya_nil)) ya_nil)) y_c)) (fun h H1 s1 => s_ret y_c fun u H2 s2 p => q u H2 (s1.trans s2) ?_) fun h H1 s1 => s_if (yt_test (y_I0 (y_len (R := IsTs) (ya_cons (y_call M ok (ya_cons (y_var rfl (Mono.mono s1 hv)) ya_nil)) ya_nil)) y_c)) (fun h2 H2 s2 => s_ret y_c fun u H3 s3 p => q u H3 ((s1.trans s2).trans s3) ?_) fun h2 H2 s2 => s_ret y_c fun u H3 s3 p => q u H3 ((s1.trans s2).trans s3) ?_
  · rw [decide_eq_true_eq] at h
    rw [p]
    unfold CB.statusM
    rw [if_pos (by omega)]
    rfl
  · rw [decide_eq_false_iff_not] at h
    rw [decide_eq_true_eq] at h2
    rw [p]
    unfold CB.statusM
    rw [if_neg (by omega), if_pos (by omega)]
    rfl
  · rw [decide_eq_false_iff_not] at h h2
    rw [p]
    unfold CB.statusM
    rw [if_neg (by omega), if_neg (by omega)]
    rfl
end
end WK

/- WkO1 -/
/-! The operations: what they are asked. -/
namespace WK
open PySem PySem.Spec PyProof.Rows L2
/-! ### programs and states -/
def PrOk (M : CB.MP) : Prop := ∃ P : Lrx6.Program, M = CB.mpOf P ∧ CB.OkP P
theorem small_bd {a : Int} (h : CB.Small a) : a.natAbs < 2 ^ 11 := by
  unfold CB.Small at h
  show _ < 2048
  omega
theorem PrOk.m {M : CB.MP} (h : PrOk M) : OkM M := by
  obtain ⟨P, rfl, o⟩ := h
  refine ⟨by have := o.hi; show P.variables ≤ 6; omega, by show (P.constraints.map _).length ≤ 6; rw [List.length_map]; exact o.few, fun r hr => ?_, o.goal, fun x hx => small_bd (o.smallG x hx)⟩
  obtain ⟨c, hc, rfl⟩ := List.mem_map.mp hr
  unfold CB.rowOf
  refine ⟨by rw [List.length_append, o.wf c hc]; rfl, BdL.app (fun x hx => small_bd ((o.small c hc).2 x hx)) fun x hx => ?_⟩
  rw [List.mem_singleton.mp hx, Int.natAbs_neg]
  exact small_bd (o.small c hc).1
theorem PrOk.cor {M : CB.MP} (h : PrOk M) (e : CB.statusM M = 0) : CB.cornersM M ≠ [] := fun z => by
  unfold CB.statusM at e
  rw [if_pos (by rw [z]; rfl)] at e
  cases e
theorem PrOk.dcor {M : CB.MP} (h : PrOk M) (e : CB.statusM M = 0) : CB.cornersM (CB.dualM M) ≠ [] := by
  obtain ⟨P, rfl, o⟩ := h
  rw [← CB.dual_is o.wf]
  intro z
  have hs : Lrx6.status P = 0 := Decidable.not_not.mp fun k => (CB.status_zero o.wf).mp k e
  exact CB.dual_corners o.wf hs ((CB.corners_tell (CB.dual_wf P)).nil.mpr z)
theorem imp_ne {M : CB.MP} (e : CB.statusM M = 2) : CB.improvingM M ≠ [] := fun z => by
  unfold CB.statusM at e
  split at e
  · cases e
  · split at e
    · rename_i h
      rw [z] at h
      exact absurd h (by decide)
    · cases e
theorem best_mem {n : Nat} {ps : List (List Int)} {goal : List Int} (h : ps ≠ []) : CB.bestOf ps goal ∈ ps := by
  have hpick : ∀ a b : List Int, (if CB.exceeds b a goal then b else a) = a ∨ (if CB.exceeds b a goal then b else a) = b := fun a b => by
    by_cases c : CB.exceeds b a goal = true
    · exact .inr (if_pos c)
    · exact .inl (if_neg c)
  have ht : CB.topOf goal ps ∈ ps := by
    have := pick_in hpick (head_mem (d := []) h) ps.length
    rw [List.take_of_length_le (Nat.le_refl _)] at this
    exact this
  have hne : ps.filter (fun p => !CB.exceeds (CB.topOf goal ps) p goal) ≠ [] := fun z => by
    have : CB.topOf goal ps ∈ ps.filter (fun p => !CB.exceeds (CB.topOf goal ps) p goal) := List.mem_filter.mpr ⟨ht, by
      unfold CB.exceeds
      simp⟩
    rw [z] at this
    cases this
  exact (List.mem_filter.mp (firstOf_mem hne)).1
/-! ### the instance -/
def IsPO (CP : Addr) : Option CB.MP → V → Hp → Prop
  | none => IsV .non
  | some M => IsPr CP M
def IsCO (CC : Addr) : Option CB.MC → V → Hp → Prop
  | none => IsV .non
  | some c => IsCy CC c
instance (CP : Addr) : ∀ o, Mono (IsPO CP o)
  | none => ⟨fun _ h => h⟩
  | some M => ⟨fun e h => Mono.mono (P := IsPr CP M) e h⟩
instance (CC : Addr) : ∀ o, Mono (IsCO CC o)
  | none => ⟨fun _ h => h⟩
  | some M => ⟨fun e h => Mono.mono (P := IsCy CC M) e h⟩
def IsIn (CI CC CP : Addr) (s : CB.MSt) : V → Hp → Prop := fun v H => ∃ a dx pv cv, v = .ref a ∧ H a = some (.ins CI dx [("program", pv), ("cycle", cv)]) ∧ IsPO CP s.prog pv H ∧ IsCO CC s.cyc cv H
instance (CI CC CP : Addr) (s : CB.MSt) : Mono (IsIn CI CC CP s) := ⟨fun e ⟨a, dx, pv, cv, h1, h2, h3, h4⟩ => ⟨a, dx, pv, cv, h1, e _ _ h2, Mono.mono e h3, Mono.mono e h4⟩⟩
structure OkA (n k : Nat) (nn : Bool) (xs : List Int) (rs : List (List Int)) : Prop where
  n : xs.length = n
  k : rs.length = k
  r : ∀ r ∈ rs, r.length ≤ 10 ∧ BdL 32 r
  nn : nn = true → 0 ≤ xs.getD 0 0
def SpOp (CI CC CP : Addr) (n k : Nat) (nn : Bool) (g : CB.MSt → CB.MP → List Int → List (List Int) → CB.MSt × List Int) : Sp := fun vs H Q _ => ∃ (s : CB.MSt) (M : CB.MP) (xs : List Int) (rs : List (List Int)) (a : Addr) (xv rv : V), vs = [.ref a, xv, rv] ∧ s.prog = some M ∧ PrOk M ∧ (∀ c, s.cyc = some c → OkCyc c) ∧ IsIn CI CC CP s (.ref a) H ∧ IsIs xs xv H ∧ IsL (IsL RN) rs rv H ∧ OkA n k nn xs rs ∧
  ∀ v H', Same (delH H a) H' → IsIn CI CC CP (g s M xs rs).1 (.ref a) H' → IsIs (g s M xs rs).2 v H' → Off H v → Q v H'
theorem spOp_len {CI CC CP : Addr} {n k : Nat} {nn : Bool} {g : CB.MSt → CB.MP → List Int → List (List Int) → CB.MSt × List Int} (vs : List V) (H : Hp) (Q : VK) (E : XK) (h : SpOp CI CC CP n k nn g vs H Q E) : vs.length = 3 := by
  obtain ⟨s, M, xs, rs, a, xv, rv, e, _⟩ := h
  rw [e]
  rfl
theorem getR {rs : List (List Int)} {i : Nat} (h : i < rs.length) : rs[i]? = some (rs.getD i []) := by
  rw [List.getD_eq_getElem?_getD, List.getElem?_eq_getElem h]
  rfl
theorem OkA.row {n k : Nat} {nn : Bool} {xs : List Int} {rs : List (List Int)} (o : OkA n k nn xs rs) {i : Nat} (h : i < k) : (rs.getD i []).length ≤ 10 ∧ BdL 32 (rs.getD i []) := o.r _ (getD_mem (by rw [o.k]; exact h))
section
variable {σ : L2.St} {H : Hp} {te ta tb tc tl : TE} {K : PySem.W.Frag} {mg : Str → Option Value} {CI CC CS CP : Addr} {s : CB.MSt} {M : CB.MP}
theorem y_prog (T : Txt K mg CI CC CS CP) (h : Y ta σ H (IsIn CI CC CP s)) (hp : s.prog = some M) : Y (tFld K ta "program") σ H (IsPr CP M) := y_fldO h fun v H' ⟨a, dx, pv, cv, h1, h2, h3, h4⟩ => ⟨a, CI, dx, _, _, h1, h2, T.c_Instance, T.a_Instance_program, rfl, by rw [hp] at h3; exact h3⟩
theorem y_cyc (T : Txt K mg CI CC CS CP) (h : Y ta σ H (IsIn CI CC CP s)) : Y (tFld K ta "cycle") σ H (IsCO CC s.cyc) := y_fldO h fun v H' ⟨a, dx, pv, cv, h1, h2, h3, h4⟩ => ⟨a, CI, dx, _, _, h1, h2, T.c_Instance, T.a_Instance_cycle, rfl, h4⟩
theorem y_cycS (T : Txt K mg CI CC CS CP) (h : Y ta σ H (IsIn CI CC CP s)) {c : CB.MC} (hc : s.cyc = some c) : Y (tFld K ta "cycle") σ H (IsCy CC c) := by
  have := y_cyc T h
  rw [hc] at this
  exact this
theorem YO.id {P : V → Hp → Prop} (h : YO te σ H P) : YO te σ H P := h
theorem yo_list3 {n m k : Int} (h : Y ta σ H (IsN n)) (h2 : Y tb σ H (IsN m)) (h3 : Y tc σ H (IsN k)) : YO (tLst (tCons ta (tCons tb (tCons tc tNil)))) σ H (IsIs [n, m, k]) := yo_lst (ya_cons h (ya_cons h2 (ya_cons h3 ya_nil))) (fun vs H' ⟨v, r, a, b, v2, r2, c, d, v3, r3, e, f, g⟩ => by rw [a, c, e, g]; show 3 ≤ 1000; decide) fun vs p H' ⟨v, r, a, b, v2, r2, c, d, v3, r3, e, f, g⟩ hp => isIs_mk (by rw [hp, a, b, c, d, e, f, g]; rfl)
/-- numbers[0], rows[0] .. -/
theorem y_n0 {xs : List Int} (h : Y ta σ H (IsIs xs)) (hl : 0 < xs.length) : Y (tOp (rIxL K) ta (tC (.int 0))) σ H (IsN (xs.getD 0 0)) := y_ixI h y_c (atN (i := 0) hl)
theorem y_n1 {xs : List Int} (h : Y ta σ H (IsIs xs)) (hl : 1 < xs.length) : Y (tOp (rIxL K) ta (tC (.int 1))) σ H (IsN (xs.getD 1 0)) := y_ixI h y_c (atN (i := 1) hl)
theorem y_r0 {rs : List (List Int)} (h : Y ta σ H (IsL (IsL RN) rs)) (hl : 0 < rs.length) : Y (tOp (rIxL K) ta (tC (.int 0))) σ H (IsIs (rs.getD 0 [])) := y_ixR (i := 0) h y_c rfl (getR hl)
theorem y_r1 {rs : List (List Int)} (h : Y ta σ H (IsL (IsL RN) rs)) (hl : 1 < rs.length) : Y (tOp (rIxL K) ta (tC (.int 1))) σ H (IsIs (rs.getD 1 [])) := y_ixR (i := 1) h y_c rfl (getR hl)
theorem y_r2 {rs : List (List Int)} (h : Y ta σ H (IsL (IsL RN) rs)) (hl : 2 < rs.length) : Y (tOp (rIxL K) ta (tC (.int 2))) σ H (IsIs (rs.getD 2 [])) := y_ixR (i := 2) h y_c rfl (getR hl)
theorem y_r3 {rs : List (List Int)} (h : Y ta σ H (IsL (IsL RN) rs)) (hl : 3 < rs.length) : Y (tOp (rIxL K) ta (tC (.int 3))) σ H (IsIs (rs.getD 3 [])) := y_ixR (i := 3) h y_c rfl (getR hl)
end
section
variable {P : Program} {w : World} {K : PySem.W.Frag} {mg : Str → Option Value} {base : Heap} {CI CC CS CP : Addr}
abbrev SpRef : Sp := SpO (fun _ => True) (fun (n : Int) => AC (IsN n) AN) (fun n => IsIs [-n])
theorem sc_refusal : FnScope ["number"] ["number"] (defScope (top 65)) := ⟨rfl, rfl, rfl, by decide +kernel, rfl, by decide +kernel, by decide +kernel⟩
theorem d_refusal (T : Txt K mg CI CC CS CP) : Dk P w K mg base 1 "refusal" ["number"] SpRef := by
  refine T.d_refusal.okO (N := ["number"]) sc_refusal (fun a vs H h => len1 h) ?_
  intro f cdv A outer s H vs E n hr _ ⟨v, r, e1, hv, e2⟩
  subst e1 e2
  cases hv
  refine ⟨_, (pss_one (ps_ret (pe_lst (pa_cons (pe_un un_neg (pv 0)) pa_nil)))), fun Q q => ?_⟩
  exact s_retO (yo_list1 (y_un (y_val rfl))) q
abbrev OpDk (P : Program) (w : World) (K : PySem.W.Frag) (mg : Str → Option Value) (base : Heap) (CI CC CP : Addr) (x : Str) (n k : Nat) (nn : Bool) (g : CB.MSt → CB.MP → List Int → List (List Int) → CB.MSt × List Int) : Prop := Dk P w K mg base 15 x ["instance", "numbers", "rows"] (SpOp CI CC CP n k nn g)
theorem sc_status : FnScope ["instance", "numbers", "rows"] ["instance", "numbers", "rows"] (defScope (top 73)) := ⟨rfl, rfl, rfl, by decide +kernel, rfl, by decide +kernel, by decide +kernel⟩
theorem o_status (T : Txt K mg CI CC CS CP) (D_status_of : Dk P w K mg base 14 "status_of" ["program"] (SpStat CP)) : OpDk P w K mg base CI CC CP "status" 0 0 false (fun s M xs rs => (s, [CB.statusM M])) := by
  refine T.d_status.okG (N := ["instance", "numbers", "rows"]) sc_status spOp_len ?_
  intro f cdv A outer s H vs E Q hr ⟨st, M, xs, rs, a, xv, rv, e1, hp, pr, oc, hi, hx, hrs, oa, q⟩
  subst e1
  refine ⟨_, (pss_one (ps_ret (pe_lst (pa_cons (D_status_of.call hr (by decide) (by rfl) (pa_cons (pe_fld (pv 0) rfl) pa_nil)) pa_nil)))), ?_⟩
  exact s_retO (yo_list1 (y_call M pr.m (ya_cons (y_prog T (y_var rfl hi) hp) ya_nil))) fun v H' s' p o => q v H' (same_delH.trans s') (Mono.mono s' hi) p o
theorem sc_optimum : FnScope ["instance", "numbers", "rows", "program", "best"] ["instance", "numbers", "rows"] (defScope (top 74)) := ⟨rfl, rfl, rfl, by decide +kernel, rfl, by decide +kernel, by decide +kernel⟩
theorem o_optimum (T : Txt K mg CI CC CS CP) (D_refusal : Dk P w K mg base 1 "refusal" ["number"] SpRef) (D_status_of : Dk P w K mg base 14 "status_of" ["program"] (SpStat CP)) (D_best_of : Dk P w K mg base 3 "best_of" ["points", "goal"] SpBest) (D_corners_of : Dk P w K mg base 12 "corners_of" ["program"] (SpCor CP CB.cornersM)) (D_value_of : Dk P w K mg base 3 "value_of" ["goal", "point"] SpVal) (D_fractions_of : Dk P w K mg base 3 "fractions_of" ["point"] SpFrac) : OpDk P w K mg base CI CC CP "optimum" 0 0 false (fun s M xs rs => (s, CB.optimumA M)) := by
  refine T.d_optimum.okG (N := ["instance", "numbers", "rows", "program", "best"]) sc_optimum spOp_len ?_
  intro f cdv A outer s H vs E Q hr ⟨st, M, xs, rs, a, xv, rv, e1, hp, pr, oc, hi, hx, hrs, oa, q⟩
  subst e1
  have q' : ∀ Hr, Same H Hr → ∀ v H', Same Hr H' → IsIs (CB.optimumA M) v H' → Off Hr v → Q v H' := fun Hr sr v H' s' p o => q v H' (same_delH.trans (sr.trans s')) (Mono.mono (sr.trans s') hi) p (off_back sr o)
  have ok := pr.m
  have okw := ok.w
  obtain ⟨_, hg_OPTIMAL⟩ := T.k_OPTIMAL
  obtain ⟨_, hg_NOT_THERE⟩ := T.k_NOT_THERE
  refine ⟨_, (pss_cons (ps_set (i := 3) sc_optimum.nd rfl (.inl rfl) (pe_fld (pv 0) rfl)) (pss_cons (ps_if (pt_cmpR op_ne (D_status_of.call hr (by decide) (by rfl) (pa_cons (pv 3) pa_nil)) (pe_glob (v := .int 0) rfl hg_OPTIMAL ⟨_, rfl⟩) (nomark _)) (pss_one (ps_ret (D_refusal.call hr (by decide) (by rfl) (pa_cons (pe_glob (v := .int 33) rfl hg_NOT_THERE ⟨_, rfl⟩) pa_nil)))) pss_nil) (pss_cons (ps_set (i := 4) sc_optimum.nd rfl (.inl rfl) (D_best_of.call hr (by decide) (by rfl) (pa_cons (D_corners_of.call hr (by decide) (by rfl) (pa_cons (pv 3) pa_nil)) (pa_cons (pe_fld (pv 3) rfl) pa_nil)))) (pss_one (ps_ret (pe_op op_cat (pe_op op_cat (pe_lst (pa_cons pe_int pa_nil)) (D_value_of.call hr (by decide) (by rfl) (pa_cons (pe_fld (pv 3) rfl) (pa_cons (pv 4) pa_nil)))) (D_fractions_of.call hr (by decide) (by rfl) (pa_cons (pv 4) pa_nil)))))))), ?_⟩
  refine s_set (y_prog T (y_var rfl hi) hp) fun u1 H1 s1 p1 => ?_
  refine s_if (yt_test (y_neI (y_call M ok (ya_cons (y_var rfl p1) ya_nil)) y_c)) (fun h H2 s2 => s_retO (y_callO 33 trivial (ya_cons y_c ya_nil)) fun u H3 s3 p o => q' _ (s1.trans s2) u H3 s3 ?_ o) fun h H2 s2 => ?_
  · unfold CB.optimumA
    rw [if_pos (by simpa using h)]
    exact p
  · have h0 : CB.statusM M = 0 := by simpa using h
    have cp := corners_pts ok
    have cne := pr.cor h0
    have bm := best_mem (n := M.width) (goal := M.goal) cne
    have bp := cp.2 _ bm
    refine s_set (y_call (M.width, CB.cornersM M, M.goal) ⟨cne, cp, ok.g, by show M.width ≤ 900; omega, ok.gb.mono (by decide)⟩ (ya_cons (y_call M ok (ya_cons (y_var rfl (Mono.mono s2 p1)) ya_nil)) (ya_cons (y_goal T (y_var rfl (Mono.mono s2 p1))) ya_nil))) fun u3 H3 s3 p3 => ?_
    have s13 := (s1.trans s2).trans s3
    have hfl : ∀ l : List Int, (CB.fractionsOf l).length = 2 * l.dropLast.length := fun l => by
      unfold CB.fractionsOf
      generalize l.dropLast = m
      induction m with
      | nil => rfl
      | cons x m ih =>
        rw [List.flatMap_cons, List.length_append, ih, List.length_cons]
        show 2 + _ = _
        omega
    refine s_retO (YO.id (yo_cat (R := RN) (YO.y (yo_cat (R := RN) (y_list1 (n := 0) y_c) (y_call (M.goal, CB.bestOf (CB.cornersM M) M.goal) ⟨by show M.goal.length + 1 = _; rw [ok.g, bp.1], by show M.goal.length ≤ 900; rw [ok.g]; omega, ok.gb.mono (by decide), bp.2.1.mono (by decide), Int.ne_of_gt bp.2.2⟩ (ya_cons (y_goal T (y_var rfl (Mono.mono (s2.trans s3) p1))) (ya_cons (y_var rfl p3) ya_nil))) (by show 1 + 2 ≤ 100000; decide))) (y_call (CB.bestOf (CB.cornersM M) M.goal) ⟨Int.ne_of_gt bp.2.2, bp.2.1.mono (by decide), by rw [bp.1]; omega⟩ (ya_cons (y_var rfl p3) ya_nil)) (by rw [hfl, bp.initlen]; show 1 + 2 + 2 * M.width ≤ _; omega))) fun u H4 s4 p o => q' _ s13 u H4 s4 ?_ o
    unfold CB.optimumA
    rw [if_neg (by simpa using h0)]
    exact p
end
end WK

/- WkO2 -/
/-! The operations that change nothing. -/
namespace WK
open PySem PySem.Spec PyProof.Rows L2
theorem frac_len (l : List Int) : (CB.fractionsOf l).length = 2 * l.dropLast.length := by
  unfold CB.fractionsOf
  generalize l.dropLast = m
  induction m with
  | nil => rfl
  | cons x m ih =>
    rw [List.flatMap_cons, List.length_append, ih, List.length_cons]
    show 2 + _ = _
    omega
theorem PtB.fr {n : Nat} {p : List Int} (h : PtB n p) (hn : n ≤ 900) : p.getLastD 0 ≠ 0 ∧ BdL 9000 p ∧ p.length ≤ 1000 := ⟨Int.ne_of_gt h.2.2, h.2.1.mono (by decide), by rw [h.1]; omega⟩
theorem isVec_ok {nums dens : List Int} {w : Nat} (h : CB.isVecM nums dens w = true) : nums.length = w ∧ dens.length = w ∧ ∀ d ∈ dens, 1 ≤ d := by
  unfold CB.isVecM at h
  split at h
  · cases h
  · rename_i k
    refine ⟨by omega, by omega, fun d hd => ?_⟩
    have := List.all_eq_true.mp h d hd
    simpa using this
section
variable {P : Program} {w : World} {K : PySem.W.Frag} {mg : Str → Option Value} {base : Heap} {CI CC CS CP : Addr}
abbrev SpVec : Sp := SpF (fun a => a.1.length ≤ 100000 ∧ a.2.1.length ≤ 100000) (fun (a : List Int × List Int × Nat) => AC (IsIs a.1) (AC (IsIs a.2.1) (AC (IsN (a.2.2 : Int)) AN))) (fun a => IsB (CB.isVecM a.1 a.2.1 a.2.2))
theorem sc_multipliers : FnScope ["instance", "numbers", "rows", "program", "dual", "best"] ["instance", "numbers", "rows"] (defScope (top 75)) := ⟨rfl, rfl, rfl, by decide +kernel, rfl, by decide +kernel, by decide +kernel⟩
theorem o_multipliers (T : Txt K mg CI CC CS CP) (D_refusal : Dk P w K mg base 1 "refusal" ["number"] SpRef) (D_status_of : Dk P w K mg base 14 "status_of" ["program"] (SpStat CP)) (D_best_of : Dk P w K mg base 3 "best_of" ["points", "goal"] SpBest) (D_corners_of : Dk P w K mg base 12 "corners_of" ["program"] (SpCor CP CB.cornersM)) (D_dual_of : Dk P w K mg base 3 "dual_of" ["program"] (SpDual CP)) (D_fractions_of : Dk P w K mg base 3 "fractions_of" ["point"] SpFrac) : OpDk P w K mg base CI CC CP "multipliers" 0 0 false (fun s M xs rs => (s, CB.multipliersA M)) := by
  refine T.d_multipliers.okG (N := ["instance", "numbers", "rows", "program", "dual", "best"]) sc_multipliers spOp_len ?_
  intro f cdv A outer s H vs E Q hr ⟨st, M, xs, rs, a, xv, rv, e1, hp, pr, oc, hi, hx, hrs, oa, q⟩
  subst e1
  have q' : ∀ Hr, Same H Hr → ∀ v H', Same Hr H' → IsIs (CB.multipliersA M) v H' → Off Hr v → Q v H' := fun Hr sr v H' s' p o => q v H' (same_delH.trans (sr.trans s')) (Mono.mono (sr.trans s') hi) p (off_back sr o)
  have ok := pr.m
  have okw := ok.dual.w
  obtain ⟨_, hg_OPTIMAL⟩ := T.k_OPTIMAL
  obtain ⟨_, hg_NOT_THERE⟩ := T.k_NOT_THERE
  refine ⟨_, (pss_cons (ps_set (i := 3) sc_multipliers.nd rfl (.inl rfl) (pe_fld (pv 0) rfl)) (pss_cons (ps_if (pt_cmpR op_ne (D_status_of.call hr (by decide) (by rfl) (pa_cons (pv 3) pa_nil)) (pe_glob (v := .int 0) rfl hg_OPTIMAL ⟨_, rfl⟩) (nomark _)) (pss_one (ps_ret (D_refusal.call hr (by decide) (by rfl) (pa_cons (pe_glob (v := .int 33) rfl hg_NOT_THERE ⟨_, rfl⟩) pa_nil)))) pss_nil) (pss_cons (ps_set (i := 4) sc_multipliers.nd rfl (.inl rfl) (D_dual_of.call hr (by decide) (by rfl) (pa_cons (pv 3) pa_nil))) (pss_cons (ps_set (i := 5) sc_multipliers.nd rfl (.inl rfl) (D_best_of.call hr (by decide) (by rfl) (pa_cons (D_corners_of.call hr (by decide) (by rfl) (pa_cons (pv 4) pa_nil)) (pa_cons (pe_fld (pv 4) rfl) pa_nil)))) (pss_one (ps_ret (pe_op op_cat (pe_lst (pa_cons (pe_fld (pv 4) rfl) pa_nil)) (D_fractions_of.call hr (by decide) (by rfl) (pa_cons (pv 5) pa_nil))))))))), ?_⟩
  refine s_set (y_prog T (y_var rfl hi) hp) fun u1 H1 s1 p1 => ?_
  refine s_if (yt_test (y_neI (y_call M ok (ya_cons (y_var rfl p1) ya_nil)) y_c)) (fun h H2 s2 => s_retO (y_callO 33 trivial (ya_cons y_c ya_nil)) fun u H3 s3 p o => q' _ (s1.trans s2) u H3 s3 ?_ o) fun h H2 s2 => ?_
  · unfold CB.multipliersA
    rw [if_pos (by simpa using h)]
    exact p
  · have h0 : CB.statusM M = 0 := by simpa using h
    have cp := corners_pts ok.dual
    have cne := pr.dcor h0
    have bm := best_mem (n := (CB.dualM M).width) (goal := (CB.dualM M).goal) cne
    have bp := cp.2 _ bm
    refine s_set (y_call M ok (ya_cons (y_var rfl (Mono.mono s2 p1)) ya_nil)) fun u3 H3 s3 p3 => ?_
    refine s_set (y_call ((CB.dualM M).width, CB.cornersM (CB.dualM M), (CB.dualM M).goal) ⟨cne, cp, ok.dual.g, by show (CB.dualM M).width ≤ 900; omega, ok.dual.gb.mono (by decide)⟩ (ya_cons (y_call (CB.dualM M) ok.dual (ya_cons (y_var rfl p3) ya_nil)) (ya_cons (y_goal T (y_var rfl p3)) ya_nil))) fun u4 H4 s4 p4 => ?_
    have s14 := ((s1.trans s2).trans s3).trans s4
    refine s_retO (YO.id (yo_cat (R := RN) (y_list1 (y_width T (y_var rfl (Mono.mono s4 p3)))) (y_call (CB.bestOf (CB.cornersM (CB.dualM M)) (CB.dualM M).goal) (bp.fr (by omega)) (ya_cons (y_var rfl p4) ya_nil)) (by rw [frac_len, bp.initlen]; show 1 + 2 * _ ≤ _; omega))) fun u H5 s5 p o => q' _ s14 u H5 s5 ?_ o
    unfold CB.multipliersA
    rw [if_neg (by simpa using h0)]
    exact p
theorem sc_refutation : FnScope ["instance", "numbers", "rows", "dual", "found"] ["instance", "numbers", "rows"] (defScope (top 76)) := ⟨rfl, rfl, rfl, by decide +kernel, rfl, by decide +kernel, by decide +kernel⟩
theorem o_refutation (T : Txt K mg CI CC CS CP) (D_refusal : Dk P w K mg base 1 "refusal" ["number"] SpRef) (D_improving_rays_of : Dk P w K mg base 13 "improving_rays_of" ["program"] (SpCor CP CB.improvingM)) (D_first_of : Dk P w K mg base 2 "first_of" ["points"] SpFirst) (D_dual_of : Dk P w K mg base 3 "dual_of" ["program"] (SpDual CP)) (D_fractions_of : Dk P w K mg base 3 "fractions_of" ["point"] SpFrac) : OpDk P w K mg base CI CC CP "refutation" 0 0 false (fun s M xs rs => (s, CB.refutationA M)) := by
  refine T.d_refutation.okG (N := ["instance", "numbers", "rows", "dual", "found"]) sc_refutation spOp_len ?_
  intro f cdv A outer s H vs E Q hr ⟨st, M, xs, rs, a, xv, rv, e1, hp, pr, oc, hi, hx, hrs, oa, q⟩
  subst e1
  have q' : ∀ Hr, Same H Hr → ∀ v H', Same Hr H' → IsIs (CB.refutationA M) v H' → Off Hr v → Q v H' := fun Hr sr v H' s' p o => q v H' (same_delH.trans (sr.trans s')) (Mono.mono (sr.trans s') hi) p (off_back sr o)
  have ok := pr.m
  have okw := ok.dual.w
  obtain ⟨_, hg_NOT_THERE⟩ := T.k_NOT_THERE
  refine ⟨_, (pss_cons (ps_set (i := 3) sc_refutation.nd rfl (.inl rfl) (D_dual_of.call hr (by decide) (by rfl) (pa_cons (pe_fld (pv 0) rfl) pa_nil))) (pss_cons (ps_set (i := 4) sc_refutation.nd rfl (.inl rfl) (D_improving_rays_of.call hr (by decide) (by rfl) (pa_cons (pv 3) pa_nil))) (pss_cons (ps_if (pt_cmpR op_eq (pe_callB call_len_seq (by rfl) T.b_len PySem.boot_len (pa_cons (pv 4) pa_nil)) pe_int (nomark _)) (pss_one (ps_ret (D_refusal.call hr (by decide) (by rfl) (pa_cons (pe_glob (v := .int 33) rfl hg_NOT_THERE ⟨_, rfl⟩) pa_nil)))) pss_nil) (pss_one (ps_ret (pe_op op_cat (pe_lst (pa_cons (pe_fld (pv 3) rfl) pa_nil)) (D_fractions_of.call hr (by decide) (by rfl) (pa_cons (D_first_of.call hr (by decide) (by rfl) (pa_cons (pv 4) pa_nil)) pa_nil)))))))), ?_⟩
  refine s_set (y_call M ok (ya_cons (y_prog T (y_var rfl hi) hp) ya_nil)) fun u1 H1 s1 p1 => ?_
  refine s_set (y_call (CB.dualM M) ok.dual (ya_cons (y_var rfl p1) ya_nil)) fun u2 H2 s2 p2 => ?_
  have ip := improving_pts ok.dual
  refine s_if (yt_test (y_eqI (y_len (R := IsTs) (ya_cons (y_var rfl p2) ya_nil)) y_c)) (fun h H3 s3 => s_retO (y_callO 33 trivial (ya_cons y_c ya_nil)) fun u H4 s4 p o => q' _ ((s1.trans s2).trans s3) u H4 s4 ?_ o) fun h H3 s3 => ?_
  · rw [decide_eq_true_eq] at h
    unfold CB.refutationA
    rw [if_pos (by omega)]
    exact p
  · rw [decide_eq_false_iff_not] at h
    have ne : CB.improvingM (CB.dualM M) ≠ [] := fun z => h (by rw [z]; rfl)
    have bp := ip.2 _ (firstOf_mem ne)
    refine s_retO (YO.id (yo_cat (R := RN) (y_list1 (y_width T (y_var rfl (Mono.mono (s2.trans s3) p1)))) (y_call (CB.firstOf (CB.improvingM (CB.dualM M))) (bp.fr (by omega)) (ya_cons (y_call ((CB.dualM M).width, CB.improvingM (CB.dualM M)) ⟨ne, ip⟩ (ya_cons (y_var rfl (Mono.mono s3 p2)) ya_nil)) ya_nil)) (by rw [frac_len, bp.initlen]; show 1 + 2 * _ ≤ _; omega))) fun u H5 s5 p o => q' _ ((s1.trans s2).trans s3) u H5 s5 ?_ o
    unfold CB.refutationA
    rw [if_neg (by omega)]
    exact p
theorem sc_ray : FnScope ["instance", "numbers", "rows", "program", "best"] ["instance", "numbers", "rows"] (defScope (top 77)) := ⟨rfl, rfl, rfl, by decide +kernel, rfl, by decide +kernel, by decide +kernel⟩
theorem o_ray (T : Txt K mg CI CC CS CP) (D_refusal : Dk P w K mg base 1 "refusal" ["number"] SpRef) (D_status_of : Dk P w K mg base 14 "status_of" ["program"] (SpStat CP)) (D_best_of : Dk P w K mg base 3 "best_of" ["points", "goal"] SpBest) (D_improving_rays_of : Dk P w K mg base 13 "improving_rays_of" ["program"] (SpCor CP CB.improvingM)) (D_fractions_of : Dk P w K mg base 3 "fractions_of" ["point"] SpFrac) : OpDk P w K mg base CI CC CP "ray" 0 0 false (fun s M xs rs => (s, CB.rayA M)) := by
  refine T.d_ray.okG (N := ["instance", "numbers", "rows", "program", "best"]) sc_ray spOp_len ?_
  intro f cdv A outer s H vs E Q hr ⟨st, M, xs, rs, a, xv, rv, e1, hp, pr, oc, hi, hx, hrs, oa, q⟩
  subst e1
  have q' : ∀ Hr, Same H Hr → ∀ v H', Same Hr H' → IsIs (CB.rayA M) v H' → Off Hr v → Q v H' := fun Hr sr v H' s' p o => q v H' (same_delH.trans (sr.trans s')) (Mono.mono (sr.trans s') hi) p (off_back sr o)
  have ok := pr.m
  have okw := ok.w
  obtain ⟨_, hg_UNBOUNDED⟩ := T.k_UNBOUNDED
  obtain ⟨_, hg_NOT_THERE⟩ := T.k_NOT_THERE
  refine ⟨_, (pss_cons (ps_set (i := 3) sc_ray.nd rfl (.inl rfl) (pe_fld (pv 0) rfl)) (pss_cons (ps_if (pt_cmpR op_ne (D_status_of.call hr (by decide) (by rfl) (pa_cons (pv 3) pa_nil)) (pe_glob (v := .int 2) rfl hg_UNBOUNDED ⟨_, rfl⟩) (nomark _)) (pss_one (ps_ret (D_refusal.call hr (by decide) (by rfl) (pa_cons (pe_glob (v := .int 33) rfl hg_NOT_THERE ⟨_, rfl⟩) pa_nil)))) pss_nil) (pss_cons (ps_set (i := 4) sc_ray.nd rfl (.inl rfl) (D_best_of.call hr (by decide) (by rfl) (pa_cons (D_improving_rays_of.call hr (by decide) (by rfl) (pa_cons (pv 3) pa_nil)) (pa_cons (pe_fld (pv 3) rfl) pa_nil)))) (pss_one (ps_ret (pe_op op_cat (pe_lst (pa_cons (pe_fld (pv 3) rfl) pa_nil)) (D_fractions_of.call hr (by decide) (by rfl) (pa_cons (pv 4) pa_nil)))))))), ?_⟩
  refine s_set (y_prog T (y_var rfl hi) hp) fun u1 H1 s1 p1 => ?_
  refine s_if (yt_test (y_neI (y_call M ok (ya_cons (y_var rfl p1) ya_nil)) y_c)) (fun h H2 s2 => s_retO (y_callO 33 trivial (ya_cons y_c ya_nil)) fun u H3 s3 p o => q' _ (s1.trans s2) u H3 s3 ?_ o) fun h H2 s2 => ?_
  · unfold CB.rayA
    rw [if_pos (by simpa using h)]
    exact p
  · have h0 : CB.statusM M = 2 := by simpa using h
    have cp := improving_pts ok
    have cne := imp_ne h0
    have bm := best_mem (n := M.width) (goal := M.goal) cne
    have bp := cp.2 _ bm
    refine s_set (y_call (M.width, CB.improvingM M, M.goal) ⟨cne, cp, ok.g, by show M.width ≤ 900; omega, ok.gb.mono (by decide)⟩ (ya_cons (y_call M ok (ya_cons (y_var rfl (Mono.mono s2 p1)) ya_nil)) (ya_cons (y_goal T (y_var rfl (Mono.mono s2 p1))) ya_nil))) fun u3 H3 s3 p3 => ?_
    have s13 := (s1.trans s2).trans s3
    refine s_retO (YO.id (yo_cat (R := RN) (y_list1 (y_width T (y_var rfl (Mono.mono (s2.trans s3) p1)))) (y_call (CB.bestOf (CB.improvingM M) M.goal) (bp.fr (by omega)) (ya_cons (y_var rfl p3) ya_nil)) (by rw [frac_len, bp.initlen]; show 1 + 2 * _ ≤ _; omega))) fun u H4 s4 p o => q' _ s13 u H4 s4 ?_ o
    unfold CB.rayA
    rw [if_neg (by simpa using h0)]
    exact p
theorem sc_corners : FnScope ["instance", "numbers", "rows"] ["instance", "numbers", "rows"] (defScope (top 78)) := ⟨rfl, rfl, rfl, by decide +kernel, rfl, by decide +kernel, by decide +kernel⟩
theorem o_corners (T : Txt K mg CI CC CS CP) (D_corners_of : Dk P w K mg base 12 "corners_of" ["program"] (SpCor CP CB.cornersM)) : OpDk P w K mg base CI CC CP "corners" 0 0 false (fun s M xs rs => (s, [((CB.cornersM M).length : Int)])) := by
  refine T.d_corners.okG (N := ["instance", "numbers", "rows"]) sc_corners spOp_len ?_
  intro f cdv A outer s H vs E Q hr ⟨st, M, xs, rs, a, xv, rv, e1, hp, pr, oc, hi, hx, hrs, oa, q⟩
  subst e1
  refine ⟨_, (pss_one (ps_ret (pe_lst (pa_cons (pe_callB call_len_seq (by rfl) T.b_len PySem.boot_len (pa_cons (D_corners_of.call hr (by decide) (by rfl) (pa_cons (pe_fld (pv 0) rfl) pa_nil)) pa_nil)) pa_nil)))), ?_⟩
  exact s_retO (yo_list1 (y_len (R := IsTs) (ya_cons (y_call M pr.m (ya_cons (y_prog T (y_var rfl hi) hp) ya_nil)) ya_nil))) fun v H' s' p o => q v H' (same_delH.trans s') (Mono.mono s' hi) p o
theorem sc_is_feasible : FnScope ["instance", "numbers", "rows", "program", "nums", "dens"] ["instance", "numbers", "rows"] (defScope (top 79)) := ⟨rfl, rfl, rfl, by decide +kernel, rfl, by decide +kernel, by decide +kernel⟩
theorem o_is_feasible (T : Txt K mg CI CC CS CP) (D_refusal : Dk P w K mg base 1 "refusal" ["number"] SpRef) (D_is_vector : Dk P w K mg base 1 "is_vector" ["nums", "dens", "width"] SpVec) (D_keeps_to : Dk P w K mg base 2 "keeps_to" ["program", "point"] (SpKeep CP)) (D_point_of : Dk P w K mg base 1 "point_of" ["nums", "dens"] SpPointOf) : OpDk P w K mg base CI CC CP "is_feasible" 0 2 false (fun s M xs rs => (s, CB.isFeasA M (rs.getD 0 []) (rs.getD 1 []))) := by
  refine T.d_is_feasible.okG (N := ["instance", "numbers", "rows", "program", "nums", "dens"]) sc_is_feasible spOp_len ?_
  intro f cdv A outer s H vs E Q hr ⟨st, M, xs, rs, a, xv, rv, e1, hp, pr, oc, hi, hx, hrs, oa, q⟩
  subst e1
  have q' : ∀ Hr, Same H Hr → ∀ v H', Same Hr H' → IsIs (CB.isFeasA M (rs.getD 0 []) (rs.getD 1 [])) v H' → Off Hr v → Q v H' := fun Hr sr v H' s' p o => q v H' (same_delH.trans (sr.trans s')) (Mono.mono (sr.trans s') hi) p (off_back sr o)
  have ok := pr.m
  have okw := ok.w
  have hk := oa.k
  have r0 := oa.row (i := 0) (by decide)
  have r1 := oa.row (i := 1) (by decide)
  obtain ⟨_, hg_BAD_ARGUMENT⟩ := T.k_BAD_ARGUMENT
  refine ⟨_, (pss_cons (ps_set (i := 3) sc_is_feasible.nd rfl (.inl rfl) (pe_fld (pv 0) rfl)) (pss_cons (ps_set (i := 4) sc_is_feasible.nd rfl (.inl rfl) (pe_ix ix_list (pv 2) pe_int (fun _ _ => rfl))) (pss_cons (ps_set (i := 5) sc_is_feasible.nd rfl (.inl rfl) (pe_ix ix_list (pv 2) pe_int (fun _ _ => rfl))) (pss_cons (ps_if (pt_not (pt_val (D_is_vector.call hr (by decide) (by rfl) (pa_cons (pv 4) (pa_cons (pv 5) (pa_cons (pe_fld (pv 3) rfl) pa_nil)))))) (pss_one (ps_ret (D_refusal.call hr (by decide) (by rfl) (pa_cons (pe_glob (v := .int 22) rfl hg_BAD_ARGUMENT ⟨_, rfl⟩) pa_nil)))) pss_nil) (pss_one (ps_ret (pe_lst (pa_cons (pe_ifExp (pt_val (D_keeps_to.call hr (by decide) (by rfl) (pa_cons (pv 3) (pa_cons (D_point_of.call hr (by decide) (by rfl) (pa_cons (pv 4) (pa_cons (pv 5) pa_nil))) pa_nil)))) pe_int pe_int) pa_nil)))))))), ?_⟩
  refine s_set (y_prog T (y_var rfl hi) hp) fun u1 H1 s1 p1 => s_set (y_r0 (y_var rfl (Mono.mono s1 hrs)) (by omega)) fun u2 H2 s2 p2 => s_set (y_r1 (y_var rfl (Mono.mono (s1.trans s2) hrs)) (by omega)) fun u3 H3 s3 p3 => ?_
  have s13 := (s1.trans s2).trans s3
  refine s_if (yt_not (yt_B (y_call (rs.getD 0 [], rs.getD 1 [], M.width) ⟨Nat.le_trans r0.1 (by decide), Nat.le_trans r1.1 (by decide)⟩ (ya_cons (y_var rfl (Mono.mono s3 p2)) (ya_cons (y_var rfl p3) (ya_cons (y_width T (y_var rfl (Mono.mono (s2.trans s3) p1))) ya_nil)))))) (fun h H4 s4 => s_retO (y_callO 22 trivial (ya_cons y_c ya_nil)) fun u H5 s5 p o => q' _ (s13.trans s4) u H5 s5 ?_ o) fun h H4 s4 => ?_
  · unfold CB.isFeasA
    rw [if_pos h]
    exact p
  · obtain ⟨h1, h2, h3⟩ := isVec_ok (w := M.width) (not_f h)
    have pt := pointOf_PtB h1 h2 (by omega) r0.2 r1.2 h3
    refine s_retO (yo_list1 (n := if CB.keepM M.rows (CB.pointOf (rs.getD 0 []) (rs.getD 1 [])) = true then 1 else 0) (y_ifE (yt_B (y_call (M, CB.pointOf (rs.getD 0 []) (rs.getD 1 [])) (ok.kp pt) (ya_cons (y_var rfl (Mono.mono ((s2.trans s3).trans s4) p1)) (ya_cons (y_call (rs.getD 0 [], rs.getD 1 []) ⟨h1.trans h2.symm, r0.1, r0.2, r1.2, h3⟩ (ya_cons (y_var rfl (Mono.mono (s3.trans s4) p2)) (ya_cons (y_var rfl (Mono.mono s4 p3)) ya_nil))) ya_nil)))) (fun e => by rw [if_pos e]; exact y_c) (fun e => by rw [if_neg (by rw [e]; decide)]; exact y_c))) fun u H5 s5 p o => q' _ (s13.trans s4) u H5 s5 ?_ o
    unfold CB.isFeasA
    rw [if_neg (by rw [h]; decide)]
    exact p
theorem sc_slack : FnScope ["instance", "numbers", "rows", "program", "place", "nums", "dens", "point"] ["instance", "numbers", "rows"] (defScope (top 80)) := ⟨rfl, rfl, rfl, by decide +kernel, rfl, by decide +kernel, by decide +kernel⟩
theorem o_slack (T : Txt K mg CI CC CS CP) (D_refusal : Dk P w K mg base 1 "refusal" ["number"] SpRef) (D_is_vector : Dk P w K mg base 1 "is_vector" ["nums", "dens", "width"] SpVec) (D_dot : Dk P w K mg base 1 "dot" ["row", "point"] SpDot) (D_lowest : Dk P w K mg base 2 "lowest" ["numerator", "denominator"] SpLow) (D_point_of : Dk P w K mg base 1 "point_of" ["nums", "dens"] SpPointOf) : OpDk P w K mg base CI CC CP "slack" 1 2 true (fun s M xs rs => (s, CB.slackA M (xs.getD 0 0) (rs.getD 0 []) (rs.getD 1 []))) := by
  refine T.d_slack.okG (N := ["instance", "numbers", "rows", "program", "place", "nums", "dens", "point"]) sc_slack spOp_len ?_
  intro f cdv A outer s H vs E Q hr ⟨st, M, xs, rs, a, xv, rv, e1, hp, pr, oc, hi, hx, hrs, oa, q⟩
  subst e1
  have q' : ∀ Hr, Same H Hr → ∀ v H', Same Hr H' → IsIs (CB.slackA M (xs.getD 0 0) (rs.getD 0 []) (rs.getD 1 [])) v H' → Off Hr v → Q v H' := fun Hr sr v H' s' p o => q v H' (same_delH.trans (sr.trans s')) (Mono.mono (sr.trans s') hi) p (off_back sr o)
  have ok := pr.m
  have okw := ok.w
  have hk := oa.k
  have hn := oa.n
  have hnn := oa.nn rfl
  have r0 := oa.row (i := 0) (by decide)
  have r1 := oa.row (i := 1) (by decide)
  obtain ⟨_, hg_BAD_ARGUMENT⟩ := T.k_BAD_ARGUMENT
  obtain ⟨_, hg_NO_CONSTRAINT⟩ := T.k_NO_CONSTRAINT
  refine ⟨_, (pss_cons (ps_set (i := 3) sc_slack.nd rfl (.inl rfl) (pe_fld (pv 0) rfl)) (pss_cons (ps_set (i := 4) sc_slack.nd rfl (.inl rfl) (pe_ix ix_list (pv 1) pe_int (fun _ _ => rfl))) (pss_cons (ps_if (pt_cmpR op_ge (pv 4) (pe_callB call_len_seq (by rfl) T.b_len PySem.boot_len (pa_cons (pe_fld (pv 3) rfl) pa_nil)) (nomark _)) (pss_one (ps_ret (D_refusal.call hr (by decide) (by rfl) (pa_cons (pe_glob (v := .int 2) rfl hg_NO_CONSTRAINT ⟨_, rfl⟩) pa_nil)))) pss_nil) (pss_cons (ps_set (i := 5) sc_slack.nd rfl (.inl rfl) (pe_ix ix_list (pv 2) pe_int (fun _ _ => rfl))) (pss_cons (ps_set (i := 6) sc_slack.nd rfl (.inl rfl) (pe_ix ix_list (pv 2) pe_int (fun _ _ => rfl))) (pss_cons (ps_if (pt_not (pt_val (D_is_vector.call hr (by decide) (by rfl) (pa_cons (pv 5) (pa_cons (pv 6) (pa_cons (pe_fld (pv 3) rfl) pa_nil)))))) (pss_one (ps_ret (D_refusal.call hr (by decide) (by rfl) (pa_cons (pe_glob (v := .int 22) rfl hg_BAD_ARGUMENT ⟨_, rfl⟩) pa_nil)))) pss_nil) (pss_cons (ps_set (i := 7) sc_slack.nd rfl (.inl rfl) (D_point_of.call hr (by decide) (by rfl) (pa_cons (pv 5) (pa_cons (pv 6) pa_nil)))) (pss_one (ps_ret (pe_op op_cat (pe_lst (pa_cons pe_int pa_nil)) (D_lowest.call hr (by decide) (by rfl) (pa_cons (pe_un un_neg (D_dot.call hr (by decide) (by rfl) (pa_cons (pe_ix ix_list (pe_fld (pv 3) rfl) (pv 4) (fun _ _ => rfl)) (pa_cons (pv 7) pa_nil)))) (pa_cons (pe_ix ix_tup (pv 7) (pe_un un_neg pe_int) (fun _ _ => rfl)) pa_nil))))))))))))), ?_⟩
  refine s_set (y_prog T (y_var rfl hi) hp) fun u1 H1 s1 p1 => s_set (y_n0 (y_var rfl (Mono.mono s1 hx)) (by omega)) fun u2 H2 s2 p2 => ?_
  cases p2
  have s12 := s1.trans s2
  refine s_if (yt_test (y_I0 (y_val rfl) (y_len (ya_cons (y_rows T (y_var rfl (Mono.mono s2 p1))) ya_nil)))) (fun h H3 s3 => s_retO (y_callO 2 trivial (ya_cons y_c ya_nil)) fun u H4 s4 p o => q' _ (s12.trans s3) u H4 s4 ?_ o) fun h H3 s3 => ?_
  · rw [decide_eq_true_eq] at h
    unfold CB.slackA
    rw [if_pos h]
    exact p
  rw [decide_eq_false_iff_not] at h
  have s13 := s12.trans s3
  refine s_set (y_r0 (y_var rfl (Mono.mono s13 hrs)) (by omega)) fun u4 H4 s4 p4 => s_set (y_r1 (y_var rfl (Mono.mono (s13.trans s4) hrs)) (by omega)) fun u5 H5 s5 p5 => ?_
  have s15 := (s13.trans s4).trans s5
  refine s_if (yt_not (yt_B (y_call (rs.getD 0 [], rs.getD 1 [], M.width) ⟨Nat.le_trans r0.1 (by decide), Nat.le_trans r1.1 (by decide)⟩ (ya_cons (y_var rfl (Mono.mono s5 p4)) (ya_cons (y_var rfl p5) (ya_cons (y_width T (y_var rfl (Mono.mono (((s2.trans s3).trans s4).trans s5) p1))) ya_nil)))))) (fun h2 H6 s6 => s_retO (y_callO 22 trivial (ya_cons y_c ya_nil)) fun u H7 s7 p o => q' _ (s15.trans s6) u H7 s7 ?_ o) fun h2 H6 s6 => ?_
  · unfold CB.slackA
    rw [if_neg h, if_pos h2]
    exact p
  obtain ⟨h3, h4, h5⟩ := isVec_ok (w := M.width) (not_f h2)
  have pt := pointOf_PtB h3 h4 (by omega) r0.2 r1.2 h5
  have s16 := s15.trans s6
  have hpl : (xs.getD 0 0).toNat < M.rows.length := by omega
  have hrow := ok.r _ (getD_mem hpl)
  refine s_set (y_call (rs.getD 0 [], rs.getD 1 []) ⟨h3.trans h4.symm, r0.1, r0.2, r1.2, h5⟩ (ya_cons (y_var rfl (Mono.mono (s5.trans s6) p4)) (ya_cons (y_var rfl (Mono.mono s6 p5)) ya_nil))) fun u7 H7 s7 p7 => ?_
  have s27 : Same H1 H7 := ((((s2.trans s3).trans s4).trans s5).trans s6).trans s7
  refine s_retO (YO.id (yo_cat (R := RN) (y_list1 (n := 0) y_c) (YO.y (y_callO (- CB.idot (M.rows.getD (xs.getD 0 0).toNat []) (CB.pointOf (rs.getD 0 []) (rs.getD 1 [])), (CB.pointOf (rs.getD 0 []) (rs.getD 1 [])).getLastD 0) ⟨Int.ne_of_gt pt.2.2, bd_up pt.2.1.last (by decide)⟩ (ya_cons (y_un (y_call (M.rows.getD (xs.getD 0 0).toNat [], CB.pointOf (rs.getD 0 []) (rs.getD 1 [])) ⟨by rw [hrow.1, pt.1], by show (M.rows.getD (xs.getD 0 0).toNat []).length ≤ 1000; rw [hrow.1]; omega, hrow.2.mono (by decide), pt.2.1.mono (by decide)⟩ (ya_cons (y_ixR (i := (xs.getD 0 0).toNat) (y_rows T (y_var rfl (Mono.mono s27 p1))) (y_val rfl) (by omega) (getR hpl)) (ya_cons (y_var rfl p7) ya_nil)))) (ya_cons (y_ixT (y_var rfl p7) (y_un y_c) (atI_neg1 pt.ne)) ya_nil)))) (by show 1 + 2 ≤ 100000; decide))) fun u H8 s8 p o => q' _ (s16.trans s7) u H8 s8 ?_ o
  unfold CB.slackA
  rw [if_neg h, if_neg (by rw [h2]; decide)]
  exact p
end
end WK

/- WkO3 -/
/-! The operations that change nothing: checks, networks. -/
namespace WK
open PySem PySem.Spec PyProof.Rows L2
theorem eqv_ints : ∀ (a b : List Int), PyData.eqv (.list (a.map PyData.int)) (.list (b.map PyData.int)) = decide (a = b)
  | [], [] => by simp [PyData.eqv, PyData.eqvAll]
  | x :: a, y :: b => by
    have ih := eqv_ints a b
    simp only [PyData.eqv] at ih
    simp only [List.map_cons, PyData.eqv, PyData.eqvAll, ih, List.cons.injEq, Bool.decide_and]
    rfl
  | [], _ :: _ => by simp [PyData.eqv, PyData.eqvAll]
  | _ :: _, [] => by simp [PyData.eqv, PyData.eqvAll]
theorem dpAll_ints {K : PySem.W.Frag} {H : Hp} : ∀ (a : List Int), DpAll K H (a.map V.int) (a.map PyData.int)
  | [] => .nil
  | x :: a => .cons (.int x) (dpAll_ints a)
section
variable {σ : L2.St} {H : Hp} {te ta tb tc tl : TE} {K : PySem.W.Frag} {mg : Str → Option Value} {CI CC CS CP : Addr} {s : CB.MSt} {M : CB.MP}
theorem y_eqL {a b : List Int} (ha : Y ta σ H (IsIs a)) (hb : Y tb σ H (IsIs b)) (la : SeqAt.shaped (.list (a.map PyData.int)) = true) (lb : SeqAt.shaped (.list (b.map PyData.int)) = true) : Y (tOp (rEqD K) ta tb) σ H (IsB (decide (a = b))) := fun H1 e Q q =>
  ha H1 e _ fun v H2 e2 hv => hb H2 (e.trans e2) _ fun u H3 e3 hu => by
    obtain ⟨p, rfl, hp⟩ := isIs_iff.mp hv
    obtain ⟨r, rfl, hr⟩ := isIs_iff.mp hu
    exact ⟨_, _, .lst (SqL.of (e3 _ _ hp)) (dpAll_ints a), .lst (SqL.of hr) (dpAll_ints b), la, lb, q _ H3 (e2.trans e3) (by rw [eqv_ints]; rfl)⟩
theorem shaped2 (n d : Int) : SeqAt.shaped (.list ((CB.lowest n d).map PyData.int)) = true := rfl
theorem y_ixLast {α : Type} {R : α → V → Hp → Prop} [∀ x, Mono (R x)] {xs : List α} {d : α} (ha : Y ta σ H (IsL R xs)) (hne : xs ≠ []) : Y (tOp (rIxL K) ta (tUn (rU fun i => V.int (-i)) (tC (.int 1)))) σ H (R (xs.getLastD d)) := fun H1 e Q q =>
  ha H1 e _ fun u H2 e2 ⟨p, vs, hx1, hx2, hx3⟩ => by
    have hl : 0 < xs.length := List.length_pos_iff.mpr hne
    have hget : xs[xs.length - 1]? = some (xs.getLastD d) := by
      rw [List.getLastD_eq_getLast?, List.getLast?_eq_getElem?]
      rw [List.getElem?_eq_getElem (by omega)]
      rfl
    obtain ⟨v, hv, hr⟩ := hx3.get hget
    refine ⟨1, rfl, p, vs, _, v, hx1, rfl, SqL.of hx2, ?_, q _ H2 e2 hr⟩
    unfold atI ixN
    rw [if_neg (by decide), if_pos (by rw [hx3.length]; omega)]
    have : (-1 + (vs.length : Int)).toNat = xs.length - 1 := by rw [hx3.length]; omega
    show vs[(-1 + (vs.length : Int)).toNat]? = some v
    rw [this, hv]
theorem yt_noCyc (T : Txt K mg CI CC CS CP) {i : Nat} {v : V} (hv : σ[i]? = some (some v)) (h : IsIn CI CC CP s v H) : YT (tB (tIsN (tFld K (tVar i) "cycle"))) σ H s.cyc.isNone := by
  obtain ⟨a, dx, pv, cv, rfl, h2, h3, h4⟩ := h
  refine yt_B (y_is (y_isN (y_fld (P := IsV cv) (y_val hv) h2 T.c_Instance T.a_Instance_cycle rfl rfl)) ?_)
  cases hc : s.cyc with
  | none =>
    rw [hc] at h4
    have : cv = .non := h4
    rw [this]
    rfl
  | some c =>
    rw [hc] at h4
    obtain ⟨b, _, _, e, _⟩ := h4
    rw [e]
    rfl
end
section
variable {P : Program} {w : World} {K : PySem.W.Frag} {mg : Str → Option Value} {base : Heap} {CI CC CS CP : Addr}
theorem sc_check_bound : FnScope ["instance", "numbers", "rows", "program", "dual", "nums", "dens", "point"] ["instance", "numbers", "rows"] (defScope (top 81)) := ⟨rfl, rfl, rfl, by decide +kernel, rfl, by decide +kernel, by decide +kernel⟩
theorem o_check_bound (T : Txt K mg CI CC CS CP) (D_refusal : Dk P w K mg base 1 "refusal" ["number"] SpRef) (D_dual_of : Dk P w K mg base 3 "dual_of" ["program"] (SpDual CP)) (D_is_vector : Dk P w K mg base 1 "is_vector" ["nums", "dens", "width"] SpVec) (D_keeps_to : Dk P w K mg base 2 "keeps_to" ["program", "point"] (SpKeep CP)) (D_proven_bound_of : Dk P w K mg base 4 "proven_bound_of" ["program", "point"] (SpProven CP)) (D_point_of : Dk P w K mg base 1 "point_of" ["nums", "dens"] SpPointOf) : OpDk P w K mg base CI CC CP "check_bound" 0 2 false (fun s M xs rs => (s, CB.checkBoundA M (rs.getD 0 []) (rs.getD 1 []))) := by
  refine T.d_check_bound.okG (N := ["instance", "numbers", "rows", "program", "dual", "nums", "dens", "point"]) sc_check_bound spOp_len ?_
  intro f cdv A outer s H vs E Q hr ⟨st, M, xs, rs, a, xv, rv, e1, hp, pr, oc, hi, hx, hrs, oa, q⟩
  subst e1
  have q' : ∀ Hr, Same H Hr → ∀ v H', Same Hr H' → IsIs (CB.checkBoundA M (rs.getD 0 []) (rs.getD 1 [])) v H' → Off Hr v → Q v H' := fun Hr sr v H' s' p o => q v H' (same_delH.trans (sr.trans s')) (Mono.mono (sr.trans s') hi) p (off_back sr o)
  have ok := pr.m
  have okw := ok.dual.w
  have hk := oa.k
  have r0 := oa.row (i := 0) (by decide)
  have r1 := oa.row (i := 1) (by decide)
  obtain ⟨_, hg_NOT_THERE⟩ := T.k_NOT_THERE
  obtain ⟨_, hg_BAD_ARGUMENT⟩ := T.k_BAD_ARGUMENT
  refine ⟨_, (pss_cons (ps_set (i := 3) sc_check_bound.nd rfl (.inl rfl) (pe_fld (pv 0) rfl)) (pss_cons (ps_set (i := 4) sc_check_bound.nd rfl (.inl rfl) (D_dual_of.call hr (by decide) (by rfl) (pa_cons (pv 3) pa_nil))) (pss_cons (ps_set (i := 5) sc_check_bound.nd rfl (.inl rfl) (pe_ix ix_list (pv 2) pe_int (fun _ _ => rfl))) (pss_cons (ps_set (i := 6) sc_check_bound.nd rfl (.inl rfl) (pe_ix ix_list (pv 2) pe_int (fun _ _ => rfl))) (pss_cons (ps_if (pt_not (pt_val (D_is_vector.call hr (by decide) (by rfl) (pa_cons (pv 5) (pa_cons (pv 6) (pa_cons (pe_fld (pv 4) rfl) pa_nil)))))) (pss_one (ps_ret (D_refusal.call hr (by decide) (by rfl) (pa_cons (pe_glob (v := .int 22) rfl hg_BAD_ARGUMENT ⟨_, rfl⟩) pa_nil)))) pss_nil) (pss_cons (ps_set (i := 7) sc_check_bound.nd rfl (.inl rfl) (D_point_of.call hr (by decide) (by rfl) (pa_cons (pv 5) (pa_cons (pv 6) pa_nil)))) (pss_cons (ps_if (pt_not (pt_val (D_keeps_to.call hr (by decide) (by rfl) (pa_cons (pv 4) (pa_cons (pv 7) pa_nil))))) (pss_one (ps_ret (D_refusal.call hr (by decide) (by rfl) (pa_cons (pe_glob (v := .int 33) rfl hg_NOT_THERE ⟨_, rfl⟩) pa_nil)))) pss_nil) (pss_one (ps_ret (pe_op op_cat (pe_lst (pa_cons pe_int pa_nil)) (D_proven_bound_of.call hr (by decide) (by rfl) (pa_cons (pv 3) (pa_cons (pv 7) pa_nil))))))))))))), ?_⟩
  refine s_set (y_prog T (y_var rfl hi) hp) fun u1 H1 s1 p1 => s_set (y_call M ok (ya_cons (y_var rfl p1) ya_nil)) fun u2 H2 s2 p2 => s_set (y_r0 (y_var rfl (Mono.mono (s1.trans s2) hrs)) (by omega)) fun u3 H3 s3 p3 => s_set (y_r1 (y_var rfl (Mono.mono ((s1.trans s2).trans s3) hrs)) (by omega)) fun u4 H4 s4 p4 => ?_
  have s14 := ((s1.trans s2).trans s3).trans s4
  refine s_if (yt_not (yt_B (y_call (rs.getD 0 [], rs.getD 1 [], (CB.dualM M).width) ⟨Nat.le_trans r0.1 (by decide), Nat.le_trans r1.1 (by decide)⟩ (ya_cons (y_var rfl (Mono.mono s4 p3)) (ya_cons (y_var rfl p4) (ya_cons (y_width T (y_var rfl (Mono.mono (s3.trans s4) p2))) ya_nil)))))) (fun h H5 s5 => s_retO (y_callO 22 trivial (ya_cons y_c ya_nil)) fun u H6 s6 p o => q' _ (s14.trans s5) u H6 s6 ?_ o) fun h H5 s5 => ?_
  · unfold CB.checkBoundA
    rw [if_pos h]
    exact p
  obtain ⟨h1, h2, h3⟩ := isVec_ok (w := (CB.dualM M).width) (not_f h)
  have pt := pointOf_PtB h1 h2 (by omega) r0.2 r1.2 h3
  refine s_set (y_call (rs.getD 0 [], rs.getD 1 []) ⟨h1.trans h2.symm, r0.1, r0.2, r1.2, h3⟩ (ya_cons (y_var rfl (Mono.mono (s4.trans s5) p3)) (ya_cons (y_var rfl (Mono.mono s5 p4)) ya_nil))) fun u6 H6 s6 p6 => ?_
  have s26 : Same H2 H6 := ((s3.trans s4).trans s5).trans s6
  have s16 := (s14.trans s5).trans s6
  refine s_if (yt_not (yt_B (y_call (CB.dualM M, CB.pointOf (rs.getD 0 []) (rs.getD 1 [])) (ok.dual.kp pt) (ya_cons (y_var rfl (Mono.mono s26 p2)) (ya_cons (y_var rfl p6) ya_nil))))) (fun h4 H7 s7 => s_retO (y_callO 33 trivial (ya_cons y_c ya_nil)) fun u H8 s8 p o => q' _ (s16.trans s7) u H8 s8 ?_ o) fun h4 H7 s7 => s_retO (YO.id (yo_cat (R := RN) (y_list1 (n := 0) y_c) (y_call (M, CB.pointOf (rs.getD 0 []) (rs.getD 1 [])) ⟨ok, pt⟩ (ya_cons (y_var rfl (Mono.mono (s2.trans (s26.trans s7)) p1)) (ya_cons (y_var rfl (Mono.mono s7 p6)) ya_nil))) (by show 1 + 2 ≤ 100000; decide))) fun u H8 s8 p o => q' _ (s16.trans s7) u H8 s8 ?_ o
  · unfold CB.checkBoundA
    rw [if_neg (by rw [h]; decide), if_pos h4]
    exact p
  · unfold CB.checkBoundA
    rw [if_neg (by rw [h]; decide), if_neg (by rw [h4]; decide)]
    exact p
theorem sc_check_refutation : FnScope ["instance", "numbers", "rows", "dual", "nums", "dens"] ["instance", "numbers", "rows"] (defScope (top 82)) := ⟨rfl, rfl, rfl, by decide +kernel, rfl, by decide +kernel, by decide +kernel⟩
theorem o_check_refutation (T : Txt K mg CI CC CS CP) (D_refusal : Dk P w K mg base 1 "refusal" ["number"] SpRef) (D_dual_of : Dk P w K mg base 3 "dual_of" ["program"] (SpDual CP)) (D_is_vector : Dk P w K mg base 1 "is_vector" ["nums", "dens", "width"] SpVec) (D_is_improving : Dk P w K mg base 4 "is_improving" ["program", "point"] (SpImp CP)) (D_point_of : Dk P w K mg base 1 "point_of" ["nums", "dens"] SpPointOf) : OpDk P w K mg base CI CC CP "check_refutation" 0 2 false (fun s M xs rs => (s, CB.checkRefA M (rs.getD 0 []) (rs.getD 1 []))) := by
  refine T.d_check_refutation.okG (N := ["instance", "numbers", "rows", "dual", "nums", "dens"]) sc_check_refutation spOp_len ?_
  intro f cdv A outer s H vs E Q hr ⟨st, M, xs, rs, a, xv, rv, e1, hp, pr, oc, hi, hx, hrs, oa, q⟩
  subst e1
  have q' : ∀ Hr, Same H Hr → ∀ v H', Same Hr H' → IsIs (CB.checkRefA M (rs.getD 0 []) (rs.getD 1 [])) v H' → Off Hr v → Q v H' := fun Hr sr v H' s' p o => q v H' (same_delH.trans (sr.trans s')) (Mono.mono (sr.trans s') hi) p (off_back sr o)
  have ok := pr.m
  have okw := ok.dual.w
  have hk := oa.k
  have r0 := oa.row (i := 0) (by decide)
  have r1 := oa.row (i := 1) (by decide)
  obtain ⟨_, hg_BAD_ARGUMENT⟩ := T.k_BAD_ARGUMENT
  refine ⟨_, (pss_cons (ps_set (i := 3) sc_check_refutation.nd rfl (.inl rfl) (D_dual_of.call hr (by decide) (by rfl) (pa_cons (pe_fld (pv 0) rfl) pa_nil))) (pss_cons (ps_set (i := 4) sc_check_refutation.nd rfl (.inl rfl) (pe_ix ix_list (pv 2) pe_int (fun _ _ => rfl))) (pss_cons (ps_set (i := 5) sc_check_refutation.nd rfl (.inl rfl) (pe_ix ix_list (pv 2) pe_int (fun _ _ => rfl))) (pss_cons (ps_if (pt_not (pt_val (D_is_vector.call hr (by decide) (by rfl) (pa_cons (pv 4) (pa_cons (pv 5) (pa_cons (pe_fld (pv 3) rfl) pa_nil)))))) (pss_one (ps_ret (D_refusal.call hr (by decide) (by rfl) (pa_cons (pe_glob (v := .int 22) rfl hg_BAD_ARGUMENT ⟨_, rfl⟩) pa_nil)))) pss_nil) (pss_one (ps_ret (pe_lst (pa_cons (pe_ifExp (pt_val (D_is_improving.call hr (by decide) (by rfl) (pa_cons (pv 3) (pa_cons (D_point_of.call hr (by decide) (by rfl) (pa_cons (pv 4) (pa_cons (pv 5) pa_nil))) pa_nil)))) pe_int pe_int) pa_nil)))))))), ?_⟩
  refine s_set (y_call M ok (ya_cons (y_prog T (y_var rfl hi) hp) ya_nil)) fun u1 H1 s1 p1 => s_set (y_r0 (y_var rfl (Mono.mono s1 hrs)) (by omega)) fun u2 H2 s2 p2 => s_set (y_r1 (y_var rfl (Mono.mono (s1.trans s2) hrs)) (by omega)) fun u3 H3 s3 p3 => ?_
  have s13 := (s1.trans s2).trans s3
  refine s_if (yt_not (yt_B (y_call (rs.getD 0 [], rs.getD 1 [], (CB.dualM M).width) ⟨Nat.le_trans r0.1 (by decide), Nat.le_trans r1.1 (by decide)⟩ (ya_cons (y_var rfl (Mono.mono s3 p2)) (ya_cons (y_var rfl p3) (ya_cons (y_width T (y_var rfl (Mono.mono (s2.trans s3) p1))) ya_nil)))))) (fun h H4 s4 => s_retO (y_callO 22 trivial (ya_cons y_c ya_nil)) fun u H5 s5 p o => q' _ (s13.trans s4) u H5 s5 ?_ o) fun h H4 s4 => ?_
  · unfold CB.checkRefA
    rw [if_pos h]
    exact p
  · obtain ⟨h1, h2, h3⟩ := isVec_ok (w := (CB.dualM M).width) (not_f h)
    have pt := pointOf_PtB h1 h2 (by omega) r0.2 r1.2 h3
    refine s_retO (yo_list1 (n := if CB.isImpM (CB.dualM M) (CB.pointOf (rs.getD 0 []) (rs.getD 1 [])) = true then 1 else 0) (y_ifE (yt_B (y_call (CB.dualM M, CB.pointOf (rs.getD 0 []) (rs.getD 1 [])) ⟨ok.dual, pt⟩ (ya_cons (y_var rfl (Mono.mono ((s2.trans s3).trans s4) p1)) (ya_cons (y_call (rs.getD 0 [], rs.getD 1 []) ⟨h1.trans h2.symm, r0.1, r0.2, r1.2, h3⟩ (ya_cons (y_var rfl (Mono.mono (s3.trans s4) p2)) (ya_cons (y_var rfl (Mono.mono s4 p3)) ya_nil))) ya_nil)))) (fun e => by rw [if_pos e]; exact y_c) (fun e => by rw [if_neg (by rw [e]; decide)]; exact y_c))) fun u H5 s5 p o => q' _ (s13.trans s4) u H5 s5 ?_ o
    unfold CB.checkRefA
    rw [if_neg (by rw [h]; decide)]
    exact p
theorem sc_check_ray : FnScope ["instance", "numbers", "rows", "program", "nums", "dens"] ["instance", "numbers", "rows"] (defScope (top 83)) := ⟨rfl, rfl, rfl, by decide +kernel, rfl, by decide +kernel, by decide +kernel⟩
theorem o_check_ray (T : Txt K mg CI CC CS CP) (D_refusal : Dk P w K mg base 1 "refusal" ["number"] SpRef) (D_is_vector : Dk P w K mg base 1 "is_vector" ["nums", "dens", "width"] SpVec) (D_is_improving : Dk P w K mg base 4 "is_improving" ["program", "point"] (SpImp CP)) (D_point_of : Dk P w K mg base 1 "point_of" ["nums", "dens"] SpPointOf) : OpDk P w K mg base CI CC CP "check_ray" 0 2 false (fun s M xs rs => (s, CB.checkRayA M (rs.getD 0 []) (rs.getD 1 []))) := by
  refine T.d_check_ray.okG (N := ["instance", "numbers", "rows", "program", "nums", "dens"]) sc_check_ray spOp_len ?_
  intro f cdv A outer s H vs E Q hr ⟨st, M, xs, rs, a, xv, rv, e1, hp, pr, oc, hi, hx, hrs, oa, q⟩
  subst e1
  have q' : ∀ Hr, Same H Hr → ∀ v H', Same Hr H' → IsIs (CB.checkRayA M (rs.getD 0 []) (rs.getD 1 [])) v H' → Off Hr v → Q v H' := fun Hr sr v H' s' p o => q v H' (same_delH.trans (sr.trans s')) (Mono.mono (sr.trans s') hi) p (off_back sr o)
  have ok := pr.m
  have okw := ok.w
  have hk := oa.k
  have r0 := oa.row (i := 0) (by decide)
  have r1 := oa.row (i := 1) (by decide)
  obtain ⟨_, hg_BAD_ARGUMENT⟩ := T.k_BAD_ARGUMENT
  refine ⟨_, (pss_cons (ps_set (i := 3) sc_check_ray.nd rfl (.inl rfl) (pe_fld (pv 0) rfl)) (pss_cons (ps_set (i := 4) sc_check_ray.nd rfl (.inl rfl) (pe_ix ix_list (pv 2) pe_int (fun _ _ => rfl))) (pss_cons (ps_set (i := 5) sc_check_ray.nd rfl (.inl rfl) (pe_ix ix_list (pv 2) pe_int (fun _ _ => rfl))) (pss_cons (ps_if (pt_not (pt_val (D_is_vector.call hr (by decide) (by rfl) (pa_cons (pv 4) (pa_cons (pv 5) (pa_cons (pe_fld (pv 3) rfl) pa_nil)))))) (pss_one (ps_ret (D_refusal.call hr (by decide) (by rfl) (pa_cons (pe_glob (v := .int 22) rfl hg_BAD_ARGUMENT ⟨_, rfl⟩) pa_nil)))) pss_nil) (pss_one (ps_ret (pe_lst (pa_cons (pe_ifExp (pt_val (D_is_improving.call hr (by decide) (by rfl) (pa_cons (pv 3) (pa_cons (D_point_of.call hr (by decide) (by rfl) (pa_cons (pv 4) (pa_cons (pv 5) pa_nil))) pa_nil)))) pe_int pe_int) pa_nil)))))))), ?_⟩
  refine s_set (y_prog T (y_var rfl hi) hp) fun u1 H1 s1 p1 => s_set (y_r0 (y_var rfl (Mono.mono s1 hrs)) (by omega)) fun u2 H2 s2 p2 => s_set (y_r1 (y_var rfl (Mono.mono (s1.trans s2) hrs)) (by omega)) fun u3 H3 s3 p3 => ?_
  have s13 := (s1.trans s2).trans s3
  refine s_if (yt_not (yt_B (y_call (rs.getD 0 [], rs.getD 1 [], M.width) ⟨Nat.le_trans r0.1 (by decide), Nat.le_trans r1.1 (by decide)⟩ (ya_cons (y_var rfl (Mono.mono s3 p2)) (ya_cons (y_var rfl p3) (ya_cons (y_width T (y_var rfl (Mono.mono (s2.trans s3) p1))) ya_nil)))))) (fun h H4 s4 => s_retO (y_callO 22 trivial (ya_cons y_c ya_nil)) fun u H5 s5 p o => q' _ (s13.trans s4) u H5 s5 ?_ o) fun h H4 s4 => ?_
  · unfold CB.checkRayA
    rw [if_pos h]
    exact p
  · obtain ⟨h1, h2, h3⟩ := isVec_ok (w := M.width) (not_f h)
    have pt := pointOf_PtB h1 h2 (by omega) r0.2 r1.2 h3
    refine s_retO (yo_list1 (n := if CB.isImpM M (CB.pointOf (rs.getD 0 []) (rs.getD 1 [])) = true then 1 else 0) (y_ifE (yt_B (y_call (M, CB.pointOf (rs.getD 0 []) (rs.getD 1 [])) ⟨ok, pt⟩ (ya_cons (y_var rfl (Mono.mono ((s2.trans s3).trans s4) p1)) (ya_cons (y_call (rs.getD 0 [], rs.getD 1 []) ⟨h1.trans h2.symm, r0.1, r0.2, r1.2, h3⟩ (ya_cons (y_var rfl (Mono.mono (s3.trans s4) p2)) (ya_cons (y_var rfl (Mono.mono s4 p3)) ya_nil))) ya_nil)))) (fun e => by rw [if_pos e]; exact y_c) (fun e => by rw [if_neg (by rw [e]; decide)]; exact y_c))) fun u H5 s5 p o => q' _ (s13.trans s4) u H5 s5 ?_ o
    unfold CB.checkRayA
    rw [if_neg (by rw [h]; decide)]
    exact p
theorem sc_check_optimum : FnScope ["instance", "numbers", "rows", "program", "dual", "point", "weights"] ["instance", "numbers", "rows"] (defScope (top 84)) := ⟨rfl, rfl, rfl, by decide +kernel, rfl, by decide +kernel, by decide +kernel⟩
theorem o_check_optimum (T : Txt K mg CI CC CS CP) (D_refusal : Dk P w K mg base 1 "refusal" ["number"] SpRef) (D_dual_of : Dk P w K mg base 3 "dual_of" ["program"] (SpDual CP)) (D_is_vector : Dk P w K mg base 1 "is_vector" ["nums", "dens", "width"] SpVec) (D_keeps_to : Dk P w K mg base 2 "keeps_to" ["program", "point"] (SpKeep CP)) (D_value_of : Dk P w K mg base 3 "value_of" ["goal", "point"] SpVal) (D_proven_bound_of : Dk P w K mg base 4 "proven_bound_of" ["program", "point"] (SpProven CP)) (D_point_of : Dk P w K mg base 1 "point_of" ["nums", "dens"] SpPointOf) : OpDk P w K mg base CI CC CP "check_optimum" 0 4 false (fun s M xs rs => (s, CB.checkOptA M (rs.getD 0 []) (rs.getD 1 []) (rs.getD 2 []) (rs.getD 3 []))) := by
  refine T.d_check_optimum.okG (N := ["instance", "numbers", "rows", "program", "dual", "point", "weights"]) sc_check_optimum spOp_len ?_
  intro f cdv A outer s H vs E Q hr ⟨st, M, xs, rs, a, xv, rv, e1, hp, pr, oc, hi, hx, hrs, oa, q⟩
  subst e1
  have q' : ∀ Hr, Same H Hr → ∀ v H', Same Hr H' → IsIs (CB.checkOptA M (rs.getD 0 []) (rs.getD 1 []) (rs.getD 2 []) (rs.getD 3 [])) v H' → Off Hr v → Q v H' := fun Hr sr v H' s' p o => q v H' (same_delH.trans (sr.trans s')) (Mono.mono (sr.trans s') hi) p (off_back sr o)
  have ok := pr.m
  have okw := ok.w
  have okd := ok.dual.w
  have hk := oa.k
  have r0 := oa.row (i := 0) (by decide)
  have r1 := oa.row (i := 1) (by decide)
  have r2 := oa.row (i := 2) (by decide)
  have r3 := oa.row (i := 3) (by decide)
  obtain ⟨_, hg_BAD_ARGUMENT⟩ := T.k_BAD_ARGUMENT
  refine ⟨_, (pss_cons (ps_set (i := 3) sc_check_optimum.nd rfl (.inl rfl) (pe_fld (pv 0) rfl)) (pss_cons (ps_set (i := 4) sc_check_optimum.nd rfl (.inl rfl) (D_dual_of.call hr (by decide) (by rfl) (pa_cons (pv 3) pa_nil))) (pss_cons (ps_if (PW.pt (pw_or (pt_not (pt_val (D_is_vector.call hr (by decide) (by rfl) (pa_cons (pe_ix ix_list (pv 2) pe_int (fun _ _ => rfl)) (pa_cons (pe_ix ix_list (pv 2) pe_int (fun _ _ => rfl)) (pa_cons (pe_fld (pv 3) rfl) pa_nil)))))) (pw_or1 (pt_not (pt_val (D_is_vector.call hr (by decide) (by rfl) (pa_cons (pe_ix ix_list (pv 2) pe_int (fun _ _ => rfl)) (pa_cons (pe_ix ix_list (pv 2) pe_int (fun _ _ => rfl)) (pa_cons (pe_fld (pv 4) rfl) pa_nil))))))))) (pss_one (ps_ret (D_refusal.call hr (by decide) (by rfl) (pa_cons (pe_glob (v := .int 22) rfl hg_BAD_ARGUMENT ⟨_, rfl⟩) pa_nil)))) pss_nil) (pss_cons (ps_set (i := 5) sc_check_optimum.nd rfl (.inl rfl) (D_point_of.call hr (by decide) (by rfl) (pa_cons (pe_ix ix_list (pv 2) pe_int (fun _ _ => rfl)) (pa_cons (pe_ix ix_list (pv 2) pe_int (fun _ _ => rfl)) pa_nil)))) (pss_cons (ps_set (i := 6) sc_check_optimum.nd rfl (.inl rfl) (D_point_of.call hr (by decide) (by rfl) (pa_cons (pe_ix ix_list (pv 2) pe_int (fun _ _ => rfl)) (pa_cons (pe_ix ix_list (pv 2) pe_int (fun _ _ => rfl)) pa_nil)))) (pss_cons (ps_if (PW.pt (pw_or (pt_not (pt_val (D_keeps_to.call hr (by decide) (by rfl) (pa_cons (pv 3) (pa_cons (pv 5) pa_nil))))) (pw_or1 (pt_not (pt_val (D_keeps_to.call hr (by decide) (by rfl) (pa_cons (pv 4) (pa_cons (pv 6) pa_nil)))))))) (pss_one (ps_ret (pe_lst (pa_cons pe_int pa_nil)))) pss_nil) (pss_one (ps_ret (pe_lst (pa_cons (pe_ifExp (pt_cmpR (op_eqD hr.units) (D_value_of.call hr (by decide) (by rfl) (pa_cons (pe_fld (pv 3) rfl) (pa_cons (pv 5) pa_nil))) (D_proven_bound_of.call hr (by decide) (by rfl) (pa_cons (pv 3) (pa_cons (pv 6) pa_nil))) (nomark _)) pe_int pe_int) pa_nil)))))))))), ?_⟩
  refine s_set (y_prog T (y_var rfl hi) hp) fun u1 H1 s1 p1 => s_set (y_call M ok (ya_cons (y_var rfl p1) ya_nil)) fun u2 H2 s2 p2 => ?_
  have s12 := s1.trans s2
  have hr2 : IsL (IsL RN) rs rv H2 := Mono.mono s12 hrs
  refine s_if (yt_or (yt_not (yt_B (y_call (rs.getD 0 [], rs.getD 1 [], M.width) ⟨Nat.le_trans r0.1 (by decide), Nat.le_trans r1.1 (by decide)⟩ (ya_cons (y_r0 (y_var rfl hr2) (by omega)) (ya_cons (y_r1 (y_var rfl hr2) (by omega)) (ya_cons (y_width T (y_var rfl (Mono.mono s2 p1))) ya_nil)))))) fun _ => yt_not (yt_B (y_call (rs.getD 2 [], rs.getD 3 [], (CB.dualM M).width) ⟨Nat.le_trans r2.1 (by decide), Nat.le_trans r3.1 (by decide)⟩ (ya_cons (y_r2 (y_var rfl hr2) (by omega)) (ya_cons (y_r3 (y_var rfl hr2) (by omega)) (ya_cons (y_width T (y_var rfl p2)) ya_nil)))))) (fun h H3 s3 => s_retO (y_callO 22 trivial (ya_cons y_c ya_nil)) fun u H4 s4 p o => q' _ (s12.trans s3) u H4 s4 ?_ o) fun h H3 s3 => ?_
  · unfold CB.checkOptA
    rw [if_pos h]
    exact p
  have hh := Bool.or_eq_false_iff.mp h
  obtain ⟨h1, h2, h3⟩ := isVec_ok (w := M.width) (not_f hh.1)
  obtain ⟨h4, h5, h6⟩ := isVec_ok (w := (CB.dualM M).width) (not_f hh.2)
  have pt := pointOf_PtB h1 h2 (by omega) r0.2 r1.2 h3
  have pd := pointOf_PtB h4 h5 (by omega) r2.2 r3.2 h6
  have hr3 : IsL (IsL RN) rs rv H3 := Mono.mono s3 hr2
  refine s_set (y_call (rs.getD 0 [], rs.getD 1 []) ⟨h1.trans h2.symm, r0.1, r0.2, r1.2, h3⟩ (ya_cons (y_r0 (y_var rfl hr3) (by omega)) (ya_cons (y_r1 (y_var rfl hr3) (by omega)) ya_nil))) fun u4 H4 s4 p4 => ?_
  have hr4 : IsL (IsL RN) rs rv H4 := Mono.mono s4 hr3
  refine s_set (y_call (rs.getD 2 [], rs.getD 3 []) ⟨h4.trans h5.symm, r2.1, r2.2, r3.2, h6⟩ (ya_cons (y_r2 (y_var rfl hr4) (by omega)) (ya_cons (y_r3 (y_var rfl hr4) (by omega)) ya_nil))) fun u5 H5 s5 p5 => ?_
  have s25 := (s3.trans s4).trans s5
  refine s_if (yt_or (yt_not (yt_B (y_call (M, CB.pointOf (rs.getD 0 []) (rs.getD 1 [])) (ok.kp pt) (ya_cons (y_var rfl (Mono.mono (s2.trans s25) p1)) (ya_cons (y_var rfl (Mono.mono s5 p4)) ya_nil))))) fun _ => yt_not (yt_B (y_call (CB.dualM M, CB.pointOf (rs.getD 2 []) (rs.getD 3 [])) (ok.dual.kp pd) (ya_cons (y_var rfl (Mono.mono s25 p2)) (ya_cons (y_var rfl p5) ya_nil))))) (fun h7 H6 s6 => s_retO (yo_list1 (n := 0) y_c) fun u H7 s7 p o => q' _ ((s12.trans s25).trans s6) u H7 s7 ?_ o) fun h7 H6 s6 => s_retO (yo_list1 (n := if CB.valueOf M.goal (CB.pointOf (rs.getD 0 []) (rs.getD 1 [])) = CB.provenM M (CB.pointOf (rs.getD 2 []) (rs.getD 3 [])) then 1 else 0) (y_ifE (yt_test (y_eqL (y_call (M.goal, CB.pointOf (rs.getD 0 []) (rs.getD 1 [])) ⟨by show M.goal.length + 1 = _; rw [ok.g, pt.1], by show M.goal.length ≤ 900; rw [ok.g]; omega, ok.gb.mono (by decide), pt.2.1.mono (by decide), Int.ne_of_gt pt.2.2⟩ (ya_cons (y_goal T (y_var rfl (Mono.mono ((s2.trans s25).trans s6) p1))) (ya_cons (y_var rfl (Mono.mono (s5.trans s6) p4)) ya_nil))) (y_call (M, CB.pointOf (rs.getD 2 []) (rs.getD 3 [])) ⟨ok, pd⟩ (ya_cons (y_var rfl (Mono.mono ((s2.trans s25).trans s6) p1)) (ya_cons (y_var rfl (Mono.mono s6 p5)) ya_nil))) (shaped2 _ _) (shaped2 _ _))) (fun e => by rw [if_pos (of_decide_eq_true e)]; exact y_c) (fun e => by rw [if_neg (of_decide_eq_false e)]; exact y_c))) fun u H7 s7 p o => q' _ ((s12.trans s25).trans s6) u H7 s7 ?_ o
  · unfold CB.checkOptA
    rw [if_neg (by rw [h]; decide), if_pos h7]
    exact p
  · unfold CB.checkOptA
    rw [if_neg (by rw [h]; decide), if_neg (by rw [h7]; decide)]
    exact p
end
end WK

/- WkO4 -/
/-! The operations: networks; those that change something. -/
namespace WK
open PySem PySem.Spec PyProof.Rows L2
theorem small_len {a b : List Int} (h1 : a.length = 2) (h2 : b.length = 2) : (CB.smallerM a b).length = 2 := by
  unfold CB.smallerM
  split
  · exact h1
  · exact h2
theorem asym_len (c : CB.MC) : (CB.asymM c).length ≤ 1000 := by
  unfold CB.asymM
  rw [List.length_append, small_len rfl rfl]
  show 2 + 2 ≤ 1000
  decide
theorem bal_len (c : CB.MC) : (CB.balM c).length ≤ 1000 := by
  unfold CB.balM
  rw [List.length_append, small_len rfl rfl]
  show 2 + 2 ≤ 1000
  decide
theorem ex_len2 (c : CB.MC) : ∀ k, ∀ l ∈ (CB.exM c k).2.2, l.length = 2
  | 0, l, h => by
    rw [List.mem_singleton.mp (show l ∈ [CB.lowest 0 1] from h)]
    rfl
  | k + 1, l, h => by
    rcases List.mem_append.mp (show l ∈ (CB.exM c k).2.2 ++ [CB.lowest _ _] from h) with h | h
    · exact ex_len2 c k l h
    · rw [List.mem_singleton.mp h]
      rfl
theorem exact_ne (c : CB.MC) (k : Nat) : CB.exactM c k ≠ [] := List.length_pos_iff.mp (by show 0 < (CB.exM c k).2.2.length; rw [exM_found]; omega)
theorem last_mem {α : Type} {l : List α} {d : α} (h : l ≠ []) : l.getLastD d ∈ l := by
  rw [List.getLastD_eq_getLast?, List.getLast?_eq_some_getLast h]
  exact List.getLast_mem h
/-! ### through the change of the instance -/
class Nf (P : V → Hp → Prop) : Prop where
  nf : ∀ {v : V} {H : Hp} {d C dx : Addr} {f1 f2 : Str × V}, H d = some (.ins C dx [f1, f2]) → P v H → P v (delH H d)
theorem delH_at2 {H : Hp} {d a C dx : Addr} {f1 f2 : Str × V} {o : HO} (hd : H d = some (.ins C dx [f1, f2])) (h : H a = some o) (hk : o ≠ .ins C dx [f1, f2]) : delH H d a = some o := by
  rw [delH_ne]
  · exact h
  · intro e
    rw [e, hd] at h
    exact hk (Option.some.inj h).symm
instance (n : Int) : Nf (RN n) := ⟨fun _ h => h⟩
theorem each_nf {α : Type} {R : α → V → Hp → Prop} [i : ∀ x, Nf (R x)] {H : Hp} {d C dx : Addr} {f1 f2 : Str × V} (hd : H d = some (.ins C dx [f1, f2])) : ∀ {xs : List α} {vs : List V}, Each R xs vs H → Each R xs vs (delH H d)
  | [], [], _ => trivial
  | x :: _, _ :: _, ⟨a, b⟩ => ⟨(i x).nf hd a, each_nf hd b⟩
  | [], _ :: _, q => q
  | _ :: _, [], q => q
instance {α : Type} (R : α → V → Hp → Prop) [∀ x, Nf (R x)] (xs : List α) : Nf (IsL R xs) := ⟨fun hd ⟨p, vs, a, b, c⟩ => ⟨p, vs, a, delH_at2 hd b (by intro z; cases z), each_nf hd c⟩⟩
instance (CC : Addr) (c : CB.MC) : Nf (IsCy CC c) := ⟨fun hd ⟨a, dx, d, h1, h2, h3⟩ => ⟨a, dx, d, h1, delH_at2 hd h2 (by intro z; cases z), Nf.nf hd h3⟩⟩
instance (CP : Addr) (M : CB.MP) : Nf (IsPr CP M) := ⟨fun hd ⟨a, dx, c, r, h1, h2, h3, h4⟩ => ⟨a, dx, c, r, h1, delH_at2 hd h2 (by intro z; cases z), Nf.nf hd h3, Nf.nf hd h4⟩⟩
instance (CP : Addr) : ∀ o, Nf (IsPO CP o)
  | none => ⟨fun _ h => h⟩
  | some M => ⟨fun e h => Nf.nf (P := IsPr CP M) e h⟩
instance (CC : Addr) : ∀ o, Nf (IsCO CC o)
  | none => ⟨fun _ h => h⟩
  | some M => ⟨fun e h => Nf.nf (P := IsCy CC M) e h⟩
section
variable {σ : L2.St} {H : Hp} {te ta tb tc tl tv : TE} {K : PySem.W.Frag} {mg : Str → Option Value} {CI CC CS CP : Addr} {D : Ends} {Pp : V → Hp → Prop}
theorem s_setP (T : Txt K mg CI CC CS CP) {i : Nat} {a dx : Addr} {pv cv : V} (hx : σ[i]? = some (some (.ref a))) (hi : H a = some (.ins CI dx [("program", pv), ("cycle", cv)])) (h : Y tv σ H Pp) [Nf Pp] [Mono Pp] (k : ∀ v H1 H2, Same H H1 → H2 = upd H1 a (.ins CI dx [("program", v), ("cycle", cv)]) → Pp v H2 → D.nx σ H2) : sFld K (tVar i) tv "program" D σ H :=
  h H (Same.refl _) _ fun v H1 e p => ⟨_, hx, a, CI, dx, _, rfl, e _ _ hi, T.c_Instance, T.a_Instance_program, (by show 2 < 1000; decide), k v H1 _ e rfl (Mono.mono (del_put same_delH) (Nf.nf (e _ _ hi) p))⟩
theorem s_setC (T : Txt K mg CI CC CS CP) {i : Nat} {a dx : Addr} {pv cv : V} (hx : σ[i]? = some (some (.ref a))) (hi : H a = some (.ins CI dx [("program", pv), ("cycle", cv)])) (h : Y tv σ H Pp) [Nf Pp] [Mono Pp] (k : ∀ v H1 H2, Same H H1 → H2 = upd H1 a (.ins CI dx [("program", pv), ("cycle", v)]) → Pp v H2 → D.nx σ H2) : sFld K (tVar i) tv "cycle" D σ H :=
  h H (Same.refl _) _ fun v H1 e p => ⟨_, hx, a, CI, dx, _, rfl, e _ _ hi, T.c_Instance, T.a_Instance_cycle, (by show 2 < 1000; decide), k v H1 _ e rfl (Mono.mono (del_put same_delH) (Nf.nf (e _ _ hi) p))⟩
end
section
variable {P : Program} {w : World} {K : PySem.W.Frag} {mg : Str → Option Value} {base : Heap} {CI CC CS CP : Addr}
abbrev SpVar : Sp := SpF (fun _ => True) (fun (n : Int) => AC (IsN n) AN) (fun n => IsB (decide (1 ≤ n) && decide (n ≤ 5)))
abbrev SpCoef : Sp := SpF (fun _ => True) (fun (n : Int) => AC (IsN n) AN) (fun n => IsB (CB.isCoefM n))
abbrev SpCoefs : Sp := SpF (fun a => a.1.length ≤ 100000) (fun (a : List Int × Nat) => AC (IsIs a.1) (AC (IsN (a.2 : Int)) AN)) (fun a => IsB (CB.areCoefM a.1 a.2))
abbrev SpIsCyc : Sp := SpF (fun a => a.2.2.length ≤ 100000) (fun (a : Int × Int × List Int) => AC (IsN a.1) (AC (IsN a.2.1) (AC (IsIs a.2.2) AN))) (fun a => IsB (CB.isCycM a.1 a.2.1 a.2.2))
abbrev SpMost : Sp := SpF (fun _ => True) (fun (n : Int) => AC (IsN n) AN) (fun n => IsB (decide (0 ≤ n) && decide (n ≤ 12)))
theorem cyc_none {st : CB.MSt} (h : st.cyc.isNone = true) : st.cyc = none := Option.isNone_iff_eq_none.mp h
theorem cyc_some {st : CB.MSt} (h : st.cyc.isNone = false) : ∃ c, st.cyc = some c := by
  cases e : st.cyc with
  | none =>
    rw [e] at h
    cases h
  | some c => exact ⟨c, rfl⟩
theorem sc_asymptotic : FnScope ["instance", "numbers", "rows"] ["instance", "numbers", "rows"] (defScope (top 85)) := ⟨rfl, rfl, rfl, by decide +kernel, rfl, by decide +kernel, by decide +kernel⟩
theorem o_asymptotic (T : Txt K mg CI CC CS CP) (D_refusal : Dk P w K mg base 1 "refusal" ["number"] SpRef) (D_asymptotic_bounds : Dk P w K mg base 3 "asymptotic_bounds" ["cycle"] (SpCyc CC CB.asymM)) : OpDk P w K mg base CI CC CP "asymptotic" 0 0 false (fun s M xs rs => (s, CB.asymA s.cyc)) := by
  refine T.d_asymptotic.okG (N := ["instance", "numbers", "rows"]) sc_asymptotic spOp_len ?_
  intro f cdv A outer s H vs E Q hr ⟨st, M, xs, rs, a, xv, rv, e1, hp, pr, oc, hi, hx, hrs, oa, q⟩
  subst e1
  have q' : ∀ Hr, Same H Hr → ∀ v H', Same Hr H' → IsIs (CB.asymA st.cyc) v H' → Off Hr v → Q v H' := fun Hr sr v H' s' p o => q v H' (same_delH.trans (sr.trans s')) (Mono.mono (sr.trans s') hi) p (off_back sr o)
  obtain ⟨_, hg_NO_CYCLE⟩ := T.k_NO_CYCLE
  refine ⟨_, (pss_cons (ps_if (pt_cmp (pc_isN (pe_fld (pv 0) rfl))) (pss_one (ps_ret (D_refusal.call hr (by decide) (by rfl) (pa_cons (pe_glob (v := .int 6) rfl hg_NO_CYCLE ⟨_, rfl⟩) pa_nil)))) pss_nil) (pss_one (ps_ret (pe_op op_cat (pe_lst (pa_cons pe_int pa_nil)) (D_asymptotic_bounds.call hr (by decide) (by rfl) (pa_cons (pe_fld (pv 0) rfl) pa_nil)))))), ?_⟩
  refine s_if (yt_noCyc T rfl hi) (fun h H1 s1 => s_retO (y_callO 6 trivial (ya_cons y_c ya_nil)) fun u H2 s2 p o => q' _ s1 u H2 s2 ?_ o) fun h H1 s1 => ?_
  · rw [cyc_none h]
    exact p
  · obtain ⟨c, hc⟩ := cyc_some h
    refine s_retO (YO.id (yo_cat (R := RN) (y_list1 (n := 0) y_c) (y_call c (oc c hc) (ya_cons (y_cycS T (y_var rfl (Mono.mono s1 hi)) hc) ya_nil)) (by have := asym_len c; show 1 + _ ≤ _; omega))) fun u H2 s2 p o => q' _ s1 u H2 s2 ?_ o
    rw [hc]
    exact p
theorem sc_balanced : FnScope ["instance", "numbers", "rows"] ["instance", "numbers", "rows"] (defScope (top 86)) := ⟨rfl, rfl, rfl, by decide +kernel, rfl, by decide +kernel, by decide +kernel⟩
theorem o_balanced (T : Txt K mg CI CC CS CP) (D_refusal : Dk P w K mg base 1 "refusal" ["number"] SpRef) (D_balanced_bounds : Dk P w K mg base 3 "balanced_bounds" ["cycle"] (SpCyc CC CB.balM)) : OpDk P w K mg base CI CC CP "balanced" 0 0 false (fun s M xs rs => (s, CB.balA s.cyc)) := by
  refine T.d_balanced.okG (N := ["instance", "numbers", "rows"]) sc_balanced spOp_len ?_
  intro f cdv A outer s H vs E Q hr ⟨st, M, xs, rs, a, xv, rv, e1, hp, pr, oc, hi, hx, hrs, oa, q⟩
  subst e1
  have q' : ∀ Hr, Same H Hr → ∀ v H', Same Hr H' → IsIs (CB.balA st.cyc) v H' → Off Hr v → Q v H' := fun Hr sr v H' s' p o => q v H' (same_delH.trans (sr.trans s')) (Mono.mono (sr.trans s') hi) p (off_back sr o)
  obtain ⟨_, hg_NO_CYCLE⟩ := T.k_NO_CYCLE
  refine ⟨_, (pss_cons (ps_if (pt_cmp (pc_isN (pe_fld (pv 0) rfl))) (pss_one (ps_ret (D_refusal.call hr (by decide) (by rfl) (pa_cons (pe_glob (v := .int 6) rfl hg_NO_CYCLE ⟨_, rfl⟩) pa_nil)))) pss_nil) (pss_one (ps_ret (pe_op op_cat (pe_lst (pa_cons pe_int pa_nil)) (D_balanced_bounds.call hr (by decide) (by rfl) (pa_cons (pe_fld (pv 0) rfl) pa_nil)))))), ?_⟩
  refine s_if (yt_noCyc T rfl hi) (fun h H1 s1 => s_retO (y_callO 6 trivial (ya_cons y_c ya_nil)) fun u H2 s2 p o => q' _ s1 u H2 s2 ?_ o) fun h H1 s1 => ?_
  · rw [cyc_none h]
    exact p
  · obtain ⟨c, hc⟩ := cyc_some h
    refine s_retO (YO.id (yo_cat (R := RN) (y_list1 (n := 0) y_c) (y_call c (oc c hc) (ya_cons (y_cycS T (y_var rfl (Mono.mono s1 hi)) hc) ya_nil)) (by have := bal_len c; show 1 + _ ≤ _; omega))) fun u H2 s2 p o => q' _ s1 u H2 s2 ?_ o
    rw [hc]
    exact p
theorem sc_saturation : FnScope ["instance", "numbers", "rows"] ["instance", "numbers", "rows"] (defScope (top 88)) := ⟨rfl, rfl, rfl, by decide +kernel, rfl, by decide +kernel, by decide +kernel⟩
theorem o_saturation (T : Txt K mg CI CC CS CP) (D_refusal : Dk P w K mg base 1 "refusal" ["number"] SpRef) (D_saturation_of : Dk P w K mg base 3 "saturation_of" ["cycle"] (SpCyc CC CB.satM)) : OpDk P w K mg base CI CC CP "saturation" 0 0 false (fun s M xs rs => (s, CB.satA s.cyc)) := by
  refine T.d_saturation.okG (N := ["instance", "numbers", "rows"]) sc_saturation spOp_len ?_
  intro f cdv A outer s H vs E Q hr ⟨st, M, xs, rs, a, xv, rv, e1, hp, pr, oc, hi, hx, hrs, oa, q⟩
  subst e1
  have q' : ∀ Hr, Same H Hr → ∀ v H', Same Hr H' → IsIs (CB.satA st.cyc) v H' → Off Hr v → Q v H' := fun Hr sr v H' s' p o => q v H' (same_delH.trans (sr.trans s')) (Mono.mono (sr.trans s') hi) p (off_back sr o)
  obtain ⟨_, hg_NO_CYCLE⟩ := T.k_NO_CYCLE
  refine ⟨_, (pss_cons (ps_if (pt_cmp (pc_isN (pe_fld (pv 0) rfl))) (pss_one (ps_ret (D_refusal.call hr (by decide) (by rfl) (pa_cons (pe_glob (v := .int 6) rfl hg_NO_CYCLE ⟨_, rfl⟩) pa_nil)))) pss_nil) (pss_one (ps_ret (pe_op op_cat (pe_lst (pa_cons pe_int pa_nil)) (D_saturation_of.call hr (by decide) (by rfl) (pa_cons (pe_fld (pv 0) rfl) pa_nil)))))), ?_⟩
  refine s_if (yt_noCyc T rfl hi) (fun h H1 s1 => s_retO (y_callO 6 trivial (ya_cons y_c ya_nil)) fun u H2 s2 p o => q' _ s1 u H2 s2 ?_ o) fun h H1 s1 => ?_
  · rw [cyc_none h]
    exact p
  · obtain ⟨c, hc⟩ := cyc_some h
    refine s_retO (YO.id (yo_cat (R := RN) (y_list1 (n := 0) y_c) (y_call c (oc c hc) (ya_cons (y_cycS T (y_var rfl (Mono.mono s1 hi)) hc) ya_nil)) (by show 1 + 2 ≤ 100000; decide))) fun u H2 s2 p o => q' _ s1 u H2 s2 ?_ o
    rw [hc]
    exact p
theorem sc_exact : FnScope ["instance", "numbers", "rows", "cycle"] ["instance", "numbers", "rows"] (defScope (top 87)) := ⟨rfl, rfl, rfl, by decide +kernel, rfl, by decide +kernel, by decide +kernel⟩
theorem o_exact (T : Txt K mg CI CC CS CP) (D_refusal : Dk P w K mg base 1 "refusal" ["number"] SpRef) (D_exact_throughputs : Dk P w K mg base 3 "exact_throughputs" ["cycle", "most"] (SpExact CC)) : OpDk P w K mg base CI CC CP "exact" 0 0 false (fun s M xs rs => (s, CB.exactA s.cyc)) := by
  refine T.d_exact.okG (N := ["instance", "numbers", "rows", "cycle"]) sc_exact spOp_len ?_
  intro f cdv A outer s H vs E Q hr ⟨st, M, xs, rs, a, xv, rv, e1, hp, pr, oc, hi, hx, hrs, oa, q⟩
  subst e1
  have q' : ∀ Hr, Same H Hr → ∀ v H', Same Hr H' → IsIs (CB.exactA st.cyc) v H' → Off Hr v → Q v H' := fun Hr sr v H' s' p o => q v H' (same_delH.trans (sr.trans s')) (Mono.mono (sr.trans s') hi) p (off_back sr o)
  obtain ⟨_, hg_NO_CYCLE⟩ := T.k_NO_CYCLE
  refine ⟨_, (pss_cons (ps_set (i := 3) sc_exact.nd rfl (.inl rfl) (pe_fld (pv 0) rfl)) (pss_cons (ps_if (pt_cmp (pc_isN (pv 3))) (pss_one (ps_ret (D_refusal.call hr (by decide) (by rfl) (pa_cons (pe_glob (v := .int 6) rfl hg_NO_CYCLE ⟨_, rfl⟩) pa_nil)))) pss_nil) (pss_one (ps_ret (pe_op op_cat (pe_lst (pa_cons pe_int pa_nil)) (pe_ix ix_list (D_exact_throughputs.call hr (by decide) (by rfl) (pa_cons (pv 3) (pa_cons (pe_fld (pv 3) rfl) pa_nil))) (pe_un un_neg pe_int) (fun _ _ => rfl))))))), ?_⟩
  refine s_set (y_cyc T (y_var rfl hi)) fun u1 H1 s1 p1 => ?_
  cases hc : st.cyc with
  | none =>
    rw [hc] at p1
    cases p1
    refine s_if (b := true) (YT.to (yt_B (y_isN (y_val rfl))) rfl) (fun h H2 s2 => s_retO (y_callO 6 trivial (ya_cons y_c ya_nil)) fun u H3 s3 p o => q' _ (s1.trans s2) u H3 s3 ?_ o) (fun h => by cases h)
    rw [hc]
    exact p
  | some c =>
    rw [hc] at p1
    have p2 : IsCy CC c u1 H1 := p1
    have hun : ∃ a, u1 = .ref a := by
      obtain ⟨a, _, _, e, _⟩ := p2
      exact ⟨a, e⟩
    have okc := oc c hc
    have c0 := okc.c0
    have c1 := okc.c1
    have hl : ((CB.exactM c c.customers.toNat).getLastD []).length = 2 := ex_len2 c _ _ (last_mem (exact_ne c _))
    refine s_if (b := false) (YT.to (yt_B (y_isN (y_val rfl))) (by obtain ⟨a, rfl⟩ := hun; rfl)) (fun h => by cases h) fun h H2 s2 => s_retO (YO.id (yo_cat (R := RN) (y_list1 (n := 0) y_c) (y_ixLast (R := IsL RN) (d := []) (y_call (c, c.customers) ⟨okc, by show 0 ≤ c.customers; omega, c1⟩ (ya_cons (y_var rfl (Mono.mono s2 p2)) (ya_cons (y_customers T (y_var rfl (Mono.mono s2 p2))) ya_nil))) (exact_ne c _)) (by show 1 + ((CB.exactM c c.customers.toNat).getLastD []).length ≤ _; rw [hl]; decide))) fun u H3 s3 p o => q' _ (s1.trans s2) u H3 s3 ?_ o
    rw [hc]
    exact p
theorem sc_exact_curve : FnScope ["instance", "numbers", "rows", "most", "curve", "answer", "fraction"] ["instance", "numbers", "rows"] (defScope (top 89)) := ⟨rfl, rfl, rfl, by decide +kernel, rfl, by decide +kernel, by decide +kernel⟩
theorem o_exact_curve (T : Txt K mg CI CC CS CP) (D_refusal : Dk P w K mg base 1 "refusal" ["number"] SpRef) (D_is_most : Dk P w K mg base 1 "is_most" ["number"] SpMost) (D_exact_throughputs : Dk P w K mg base 3 "exact_throughputs" ["cycle", "most"] (SpExact CC)) : OpDk P w K mg base CI CC CP "exact_curve" 1 0 false (fun s M xs rs => (s, CB.curveA (xs.getD 0 0) s.cyc)) := by
  refine T.d_exact_curve.okG (N := ["instance", "numbers", "rows", "most", "curve", "answer", "fraction"]) sc_exact_curve spOp_len ?_
  intro f cdv A outer s H vs E Q hr ⟨st, M, xs, rs, a, xv, rv, e1, hp, pr, oc, hi, hx, hrs, oa, q⟩
  subst e1
  have q' : ∀ Hr, Same H Hr → ∀ v H', Same Hr H' → IsIs (CB.curveA (xs.getD 0 0) st.cyc) v H' → Off Hr v → Q v H' := fun Hr sr v H' s' p o => q v H' (same_delH.trans (sr.trans s')) (Mono.mono (sr.trans s') hi) p (off_back sr o)
  have hn := oa.n
  obtain ⟨_, hg_BAD_ARGUMENT⟩ := T.k_BAD_ARGUMENT
  obtain ⟨_, hg_NO_CYCLE⟩ := T.k_NO_CYCLE
  refine ⟨_, (pss_cons (ps_if (pt_cmp (pc_isN (pe_fld (pv 0) rfl))) (pss_one (ps_ret (D_refusal.call hr (by decide) (by rfl) (pa_cons (pe_glob (v := .int 6) rfl hg_NO_CYCLE ⟨_, rfl⟩) pa_nil)))) pss_nil) (pss_cons (ps_set (i := 3) sc_exact_curve.nd rfl (.inl rfl) (pe_ix ix_list (pv 1) pe_int (fun _ _ => rfl))) (pss_cons (ps_if (pt_not (pt_val (D_is_most.call hr (by decide) (by rfl) (pa_cons (pv 3) pa_nil)))) (pss_one (ps_ret (D_refusal.call hr (by decide) (by rfl) (pa_cons (pe_glob (v := .int 22) rfl hg_BAD_ARGUMENT ⟨_, rfl⟩) pa_nil)))) pss_nil) (pss_cons (ps_set (i := 4) sc_exact_curve.nd rfl (.inl rfl) (D_exact_throughputs.call hr (by decide) (by rfl) (pa_cons (pe_fld (pv 0) rfl) (pa_cons (pv 3) pa_nil)))) (pss_cons (ps_set (i := 5) sc_exact_curve.nd rfl (.inl rfl) (pe_lst (pa_cons (pe_callB call_len_seq (by rfl) T.b_len PySem.boot_len (pa_cons (pv 4) pa_nil)) pa_nil))) (pss_cons (ps_for PassesOwn.never rfl (pi_list (pv 4)) (pg_name (i := 6) sc_exact_curve.nd rfl (.inl rfl)) (pss_one (ps_expr (pe_bm PySem.F.plainAttrs_list PySem.F.slot_list_extend PySem.F.type_list_extend mt_extend (pv 5) (pa_cons (pv 6) pa_nil))))) (pss_one (ps_ret (pv 5))))))))), ?_⟩
  refine s_if (yt_noCyc T rfl hi) (fun h H1 s1 => s_retO (y_callO 6 trivial (ya_cons y_c ya_nil)) fun u H2 s2 p o => q' _ s1 u H2 s2 ?_ o) fun h H1 s1 => ?_
  · rw [cyc_none h]
    exact p
  obtain ⟨c, hc⟩ := cyc_some h
  rw [hc] at q'
  refine s_set (y_n0 (y_var rfl (Mono.mono s1 hx)) (by omega)) fun u2 H2 s2 p2 => ?_
  cases p2
  have s12 := s1.trans s2
  refine s_if (yt_not (yt_B (y_call (xs.getD 0 0) trivial (ya_cons (y_val rfl) ya_nil)))) (fun h3 H3 s3 => s_retO (y_callO 22 trivial (ya_cons y_c ya_nil)) fun u H4 s4 p o => q' _ (s12.trans s3) u H4 s4 ?_ o) fun h3 H3 s3 => ?_
  · have hh := not_t h3
    rw [Bool.and_eq_false_iff, decide_eq_false_iff_not, decide_eq_false_iff_not] at hh
    unfold CB.curveA CB.cycA
    dsimp only
    rw [if_pos (by omega)]
    exact p
  have hh := not_f h3
  rw [Bool.and_eq_true, decide_eq_true_eq, decide_eq_true_eq] at hh
  have s13 := s12.trans s3
  refine s_set (y_call (c, xs.getD 0 0) ⟨oc c hc, hh.1, by show xs.getD 0 0 ≤ 40; omega⟩ (ya_cons (y_cycS T (y_var rfl (Mono.mono s13 hi)) hc) (ya_cons (y_val rfl) ya_nil))) fun u4 H4 s4 p4 => ?_
  have s14 := s13.trans s4
  have cl : (CB.exactM c (xs.getD 0 0).toNat).length = (xs.getD 0 0).toNat + 1 := exM_found c _
  refine s_new1 (P := IsN (((CB.exactM c (xs.getD 0 0).toNat).length : Nat) : Int)) (y_len (ya_cons (y_var rfl p4) ya_nil)) fun u5 H5 d s5 p5 hd => s_seq ?_
  cases p5
  have s45 : Same H4 (upd H5 d (.lst [.int (((CB.exactM c (xs.getD 0 0).toNat).length : Nat) : Int)])) := s5.trans (Same.new hd)
  have hfl : ∀ k, (((CB.exactM c (xs.getD 0 0).toNat).take k).flatMap id).length ≤ 2 * k := fun k => by
    have : ∀ l : List (List Int), (∀ x ∈ l, x.length = 2) → (l.flatMap id).length = 2 * l.length := by
      intro l
      induction l with
      | nil => intro _; rfl
      | cons x l ih =>
        intro hx
        rw [List.flatMap_cons, List.length_append, ih fun y hy => hx y (List.mem_cons_of_mem _ hy), List.length_cons]
        show x.length + _ = _
        rw [hx x (List.mem_cons_self ..)]
        omega
    rw [this ((CB.exactM c (xs.getD 0 0).toNat).take k) fun x hx => ex_len2 c _ x (List.mem_of_mem_take hx), List.length_take]
    omega
  have hd4 : H4 d = none := by
    cases e : H4 d with
    | none => rfl
    | some o =>
      rw [s5 _ _ e] at hd
      cases hd
  obtain ⟨pp, vs4, rfl, hp4, hE4⟩ := p4
  refine s_forL (P := IsV (.ref pp)) (y_val rfl) fun v6 H6 s6 p6 => ?_
  refine ⟨pp, vs4, fun k σ' H' => ∃ z1, σ' = [some (.ref a), some xv, some rv, some (.int (xs.getD 0 0)), some (.ref pp), some (.ref d), z1] ∧ H' d = some (.lst ((([(((CB.exactM c (xs.getD 0 0).toNat).length : Nat) : Int)] ++ ((CB.exactM c (xs.getD 0 0).toNat).take k).flatMap id)).map V.int)) ∧ Same H4 H', p6, ⟨none, rfl, s6 _ _ upd_same, s45.trans s6⟩, fun i σ' H' ⟨z1, h1, h2, h3⟩ => h3 _ _ hp4, ?_, ?_⟩
  · rintro i x σ' H' hx ⟨z1, rfl, h2, h3⟩
    obtain ⟨l, hl, hlx⟩ := hE4.back hx
    refine s_extend (ns := l) (y_val rfl) h2 ?_ (ya_cons (y_var rfl (Mono.mono h3 hlx)) ya_nil) fun H7 s7 h7 => ⟨some x, rfl, ?_, Same.mut (h3.trans s7) hd4⟩
    · rw [List.length_map, List.length_append, ex_len2 c _ l (List.mem_of_getElem? hl)]
      have := hfl i
      have hi4 : i < (CB.exactM c (xs.getD 0 0).toNat).length := (List.getElem?_eq_some_iff.mp hl).1
      rw [cl] at hi4
      show 1 + _ + 2 ≤ _
      omega
    · rw [upd_same, ← List.map_append, take_snoc hl, List.flatMap_append, List.append_assoc]
      simp
  · rintro σ' H' ⟨z1, rfl, h2, h3⟩
    rw [hE4.length, List.take_of_length_le (Nat.le_refl _)] at h2
    dsimp only
    have hdH : H d = none := by
      cases e : H d with
      | none => rfl
      | some o =>
        rw [s14 _ _ e] at hd4
        cases hd4
    refine s_ret (P := fun v' H' => v' = .ref d ∧ IsIs _ v' H') (Y.imp (y_val rfl) fun v' H' s8 e8 => ⟨e8, by rw [show v' = _ from e8]; exact Mono.mono s8 (isIs_mk h2)⟩) fun u8 H8 s8 p8 => q' _ (Same.refl _) u8 H8 ((s14.trans h3).trans s8) ?_ (by rw [p8.1]; intro D us hD z; cases z; rw [hdH] at hD; cases hD)
    unfold CB.curveA CB.cycA
    dsimp only
    rw [if_neg (by omega)]
    exact p8.2
theorem sc_summary : FnScope ["instance", "numbers", "rows", "program", "queues"] ["instance", "numbers", "rows"] (defScope (top 90)) := ⟨rfl, rfl, rfl, by decide +kernel, rfl, by decide +kernel, by decide +kernel⟩
theorem o_summary (T : Txt K mg CI CC CS CP) : OpDk P w K mg base CI CC CP "summary" 0 0 false (fun s M xs rs => (s, CB.summaryA M s.cyc)) := by
  refine T.d_summary.okG (N := ["instance", "numbers", "rows", "program", "queues"]) sc_summary spOp_len ?_
  intro f cdv A outer s H vs E Q hr ⟨st, M, xs, rs, a, xv, rv, e1, hp, pr, oc, hi, hx, hrs, oa, q⟩
  subst e1
  have q' : ∀ Hr, Same H Hr → ∀ v H', Same Hr H' → IsIs (CB.summaryA M st.cyc) v H' → Off Hr v → Q v H' := fun Hr sr v H' s' p o => q v H' (same_delH.trans (sr.trans s')) (Mono.mono (sr.trans s') hi) p (off_back sr o)
  refine ⟨_, (pss_cons (ps_set (i := 3) sc_summary.nd rfl (.inl rfl) (pe_fld (pv 0) rfl)) (pss_cons (ps_set (i := 4) sc_summary.nd rfl (.inl rfl) (pe_ifExp (pt_cmp (pc_isN (pe_fld (pv 0) rfl))) pe_int (pe_callB call_len_seq (by rfl) T.b_len PySem.boot_len (pa_cons (pe_fld (pe_fld (pv 0) rfl) rfl) pa_nil)))) (pss_one (ps_ret (pe_lst (pa_cons (pe_fld (pv 3) rfl) (pa_cons (pe_callB call_len_seq (by rfl) T.b_len PySem.boot_len (pa_cons (pe_fld (pv 3) rfl) pa_nil)) (pa_cons (pv 4) pa_nil)))))))), ?_⟩
  refine s_set (y_prog T (y_var rfl hi) hp) fun u1 H1 s1 p1 => s_set (P := IsN (match st.cyc with | none => 0 | some c => (c.demands.length : Int))) (y_ifE (yt_noCyc T rfl (Mono.mono s1 hi)) (fun e => by rw [cyc_none e]; exact y_c) (fun e => by
    obtain ⟨c, hc⟩ := cyc_some e
    have := y_len (K := K) (ya_cons (y_demands T (y_cycS T (y_var (i := 0) (σ := [some (.ref a), some xv, some rv, some u1, none].set 3 (some u1)) rfl (Mono.mono s1 hi)) hc)) ya_nil)
    rw [hc]
    exact this)) fun u2 H2 s2 p2 => ?_
  exact s_retO (yo_list3 (y_width T (y_var rfl (Mono.mono s2 p1))) (y_len (ya_cons (y_rows T (y_var rfl (Mono.mono s2 p1))) ya_nil)) (y_var rfl p2)) fun u H3 s3 p o => q' _ (s1.trans s2) u H3 s3 p o
end
end WK

/- WkO5 -/
/-! The operations that change something. -/
namespace WK
open PySem PySem.Spec PyProof.Rows L2
theorem cut_to {δ : Type} (xs : List δ) (k : Nat) : cutG xs none (some (k : Int)) = xs.take k := by
  have e1 : HT.sIx xs.length xs.length (some (k : Int)) = min k xs.length := by
    show (if (k : Int) < 0 then ((k : Int) + (xs.length : Int)).toNat else min (k : Int).toNat xs.length) = _
    rw [if_neg (by omega)]
    congr 1
  have e2 : HT.sIx xs.length 0 none = 0 := rfl
  unfold cutG
  rw [e1, e2, List.drop_zero, Nat.sub_zero]
  rcases Nat.le_total k xs.length with h | h
  · rw [Nat.min_eq_left h]
  · rw [Nat.min_eq_right h, List.take_of_length_le (Nat.le_refl _), List.take_of_length_le h]
theorem off_del {H H1 : Hp} {a C dx : Addr} {fs : List (Str × V)} {v : V} (g : Same (delH H a) H1) (h : H a = some (.ins C dx fs)) (o : Off H1 v) : Off H v := fun D us hd => o D us (g _ _ (by
  rw [delH_ne]
  · exact hd
  · intro e
    rw [e, h] at hd
    cases hd))
def SpCre (CI CC CP : Addr) : Sp := fun vs H Q _ => ∃ (s : CB.MSt) (xs : List Int) (a : Addr) (xv rv : V), vs = [.ref a, xv, rv] ∧ IsIn CI CC CP s (.ref a) H ∧ IsIs xs xv H ∧ xs.length = 1 ∧
  ∀ v H', Same (delH H a) H' → IsIn CI CC CP (CB.createM s (xs.getD 0 0)).1 (.ref a) H' → IsIs (CB.createM s (xs.getD 0 0)).2 v H' → Off H v → Q v H'
theorem spCre_len {CI CC CP : Addr} (vs : List V) (H : Hp) (Q : VK) (E : XK) (h : SpCre CI CC CP vs H Q E) : vs.length = 3 := by
  obtain ⟨s, xs, a, xv, rv, e, _⟩ := h
  rw [e]
  rfl
section
variable {P : Program} {w : World} {K : PySem.W.Frag} {mg : Str → Option Value} {base : Heap} {CI CC CS CP : Addr}
theorem sc_create : FnScope ["instance", "numbers", "rows", "width"] ["instance", "numbers", "rows"] (defScope (top 68)) := ⟨rfl, rfl, rfl, by decide +kernel, rfl, by decide +kernel, by decide +kernel⟩
theorem o_create (T : Txt K mg CI CC CS CP) (D_Program : Di P w K mg base 1 CP ["self", "width", "rows", "goal"] (SpIPr CP)) (D_refusal : Dk P w K mg base 1 "refusal" ["number"] SpRef) (D_is_variables : Dk P w K mg base 1 "is_variables" ["number"] SpVar) : Dk P w K mg base 15 "create" ["instance", "numbers", "rows"] (SpCre CI CC CP) := by
  refine T.d_create.okG (N := ["instance", "numbers", "rows", "width"]) sc_create spCre_len ?_
  intro f cdv A outer s H vs E Q hr ⟨st, xs, a, xv, rv, e1, hi, hx, hl, q⟩
  subst e1
  obtain ⟨_, hg_BAD_ARGUMENT⟩ := T.k_BAD_ARGUMENT
  refine ⟨_, (pss_cons (ps_set (i := 3) sc_create.nd rfl (.inl rfl) (pe_ix ix_list (pv 1) pe_int (fun _ _ => rfl))) (pss_cons (ps_if (pt_not (pt_val (D_is_variables.call hr (by decide) (by rfl) (pa_cons (pv 3) pa_nil)))) (pss_one (ps_ret (D_refusal.call hr (by decide) (by rfl) (pa_cons (pe_glob (v := .int 22) rfl hg_BAD_ARGUMENT ⟨_, rfl⟩) pa_nil)))) pss_nil) (pss_cons (ps_fld (pv 0) (D_Program.call hr (by decide) (by rfl) T.g_Program (pa_cons (pv 3) (pa_cons (pe_lst pa_nil) (pa_cons (pe_op op_rep (pe_lst (pa_cons pe_int pa_nil)) (pv 3)) pa_nil)))) rfl) (pss_cons (ps_fld (pv 0) pe_non rfl) (pss_one (ps_ret (pe_lst (pa_cons pe_int pa_nil)))))))), ?_⟩
  refine s_set (y_n0 (y_var rfl hx) (by omega)) fun u1 H1 s1 p => ?_
  cases p
  have hcr : CB.createM st (xs.getD 0 0) = if ¬ (1 ≤ xs.getD 0 0 ∧ xs.getD 0 0 ≤ 5) then (st, [-22]) else (⟨some ⟨(xs.getD 0 0).toNat, [], List.replicate (xs.getD 0 0).toNat 0⟩, none⟩, [0]) := rfl
  refine s_if (yt_not (yt_B (y_call (xs.getD 0 0) trivial (ya_cons (y_val rfl) ya_nil)))) (fun h H2 s2 => s_retO (y_callO 22 trivial (ya_cons y_c ya_nil)) fun u H3 s3 p o => ?_) fun h H2 s2 => ?_
  · have hh := not_t h
    rw [Bool.and_eq_false_iff, decide_eq_false_iff_not, decide_eq_false_iff_not] at hh
    rw [hcr, if_pos (by omega)] at q
    exact q u H3 (same_delH.trans ((s1.trans s2).trans s3)) (Mono.mono ((s1.trans s2).trans s3) hi) p (off_back ((s1.trans s2)) o)
  have hh := not_f h
  rw [Bool.and_eq_true, decide_eq_true_eq, decide_eq_true_eq] at hh
  rw [hcr, if_neg (by omega)] at q
  have s12 := s1.trans s2
  obtain ⟨a', dx, pv', cv, ea, h2, h3, h4⟩ := hi
  cases ea
  refine s_seq ?_
  dsimp only
  refine s_setP T rfl (s12 _ _ h2) (YO.y (yo_program ⟨(xs.getD 0 0).toNat, [], List.replicate (xs.getD 0 0).toNat 0⟩ (Y.toN (y_val rfl) (by show _ = (((xs.getD 0 0).toNat : Nat) : Int); omega)) (YO.y yo_listE) (YO.y (yo_rep (y_list1 y_c) (y_val rfl) (by omega) (by omega))))) fun v3 H3 H4 s3 e4 p3 => ?_
  have g4 : Same (delH H a) H4 := by
    rw [e4]
    exact del_put (same_delH.trans (s12.trans s3))
  have h4a : H4 a = some (.ins CI dx [("program", v3), ("cycle", cv)]) := by
    rw [e4]
    exact upd_same
  refine s_seq ?_
  dsimp only
  refine s_setC (Pp := IsPO CP none) T rfl h4a y_c fun v5 H5 H6 s5 e6 p5 => ?_
  have p5' : v5 = .non := p5
  subst p5'
  have g6 : Same (delH H4 a) H6 := by
    rw [e6]
    exact del_put (same_delH.trans s5)
  dsimp only
  refine s_retO (yo_list1 (n := 0) y_c) fun u H7 s7 p7 o => q u H7 ((del_trans g4 g6).trans s7) ⟨a, dx, v3, .non, rfl, s7 _ _ (by rw [e6]; exact upd_same), ?_, rfl⟩ p7 (off_del (del_trans g4 g6) h2 o)
  exact Mono.mono (P := IsPr CP _) s7 (Mono.mono g6 (Nf.nf h4a p3))
theorem sc_add_constraint : FnScope ["instance", "numbers", "rows", "program", "bound", "coefficients", "count"] ["instance", "numbers", "rows"] (defScope (top 69)) := ⟨rfl, rfl, rfl, by decide +kernel, rfl, by decide +kernel, by decide +kernel⟩
theorem o_add_constraint (T : Txt K mg CI CC CS CP) (D_Program : Di P w K mg base 1 CP ["self", "width", "rows", "goal"] (SpIPr CP)) (D_refusal : Dk P w K mg base 1 "refusal" ["number"] SpRef) (D_is_coefficient : Dk P w K mg base 1 "is_coefficient" ["number"] SpCoef) (D_are_coefficients : Dk P w K mg base 2 "are_coefficients" ["numbers", "width"] SpCoefs) : OpDk P w K mg base CI CC CP "add_constraint" 1 1 false (fun s M xs rs => CB.addM s M (xs.getD 0 0) (rs.getD 0 [])) := by
  refine T.d_add_constraint.okG (N := ["instance", "numbers", "rows", "program", "bound", "coefficients", "count"]) sc_add_constraint spOp_len ?_
  intro f cdv A outer s H vs E Q hr ⟨st, M, xs, rs, a, xv, rv, e1, hp, pr, oc, hi, hx, hrs, oa, q⟩
  subst e1
  dsimp only at q
  have ok := pr.m
  have few := ok.few
  have hn := oa.n
  have hk := oa.k
  have r0 := oa.row (i := 0) (by decide)
  have hcr : CB.addM st M (xs.getD 0 0) (rs.getD 0 []) = if (!CB.isCoefM (xs.getD 0 0) || !CB.areCoefM (rs.getD 0 []) M.width) = true then (st, [-22]) else if M.rows.length = 6 then (st, [-28]) else (⟨some ⟨M.width, M.rows ++ [(rs.getD 0 []) ++ [-(xs.getD 0 0)]], M.goal⟩, st.cyc⟩, [(M.rows.length : Int)]) := rfl
  obtain ⟨_, hg_MOST_CONSTRAINTS⟩ := T.k_MOST_CONSTRAINTS
  obtain ⟨_, hg_CONSTRAINTS_FULL⟩ := T.k_CONSTRAINTS_FULL
  obtain ⟨_, hg_BAD_ARGUMENT⟩ := T.k_BAD_ARGUMENT
  refine ⟨_, (pss_cons (ps_set (i := 3) sc_add_constraint.nd rfl (.inl rfl) (pe_fld (pv 0) rfl)) (pss_cons (ps_set (i := 4) sc_add_constraint.nd rfl (.inl rfl) (pe_ix ix_list (pv 1) pe_int (fun _ _ => rfl))) (pss_cons (ps_set (i := 5) sc_add_constraint.nd rfl (.inl rfl) (pe_ix ix_list (pv 2) pe_int (fun _ _ => rfl))) (pss_cons (ps_if (PW.pt (pw_or (pt_not (pt_val (D_is_coefficient.call hr (by decide) (by rfl) (pa_cons (pv 4) pa_nil)))) (pw_or1 (pt_not (pt_val (D_are_coefficients.call hr (by decide) (by rfl) (pa_cons (pv 5) (pa_cons (pe_fld (pv 3) rfl) pa_nil)))))))) (pss_one (ps_ret (D_refusal.call hr (by decide) (by rfl) (pa_cons (pe_glob (v := .int 22) rfl hg_BAD_ARGUMENT ⟨_, rfl⟩) pa_nil)))) pss_nil) (pss_cons (ps_set (i := 6) sc_add_constraint.nd rfl (.inl rfl) (pe_callB call_len_seq (by rfl) T.b_len PySem.boot_len (pa_cons (pe_fld (pv 3) rfl) pa_nil))) (pss_cons (ps_if (pt_cmpR op_eq (pv 6) (pe_glob (v := .int 6) rfl hg_MOST_CONSTRAINTS ⟨_, rfl⟩) (nomark _)) (pss_one (ps_ret (D_refusal.call hr (by decide) (by rfl) (pa_cons (pe_glob (v := .int 28) rfl hg_CONSTRAINTS_FULL ⟨_, rfl⟩) pa_nil)))) pss_nil) (pss_cons (ps_fld (pv 0) (D_Program.call hr (by decide) (by rfl) T.g_Program (pa_cons (pe_fld (pv 3) rfl) (pa_cons (pe_op op_cat (pe_fld (pv 3) rfl) (pe_lst (pa_cons (pe_op op_cat (pv 5) (pe_lst (pa_cons (pe_un un_neg (pv 4)) pa_nil))) pa_nil))) (pa_cons (pe_fld (pv 3) rfl) pa_nil)))) rfl) (pss_one (ps_ret (pe_lst (pa_cons (pv 6) pa_nil))))))))))), ?_⟩
  refine s_set (y_prog T (y_var rfl hi) hp) fun u1 H1 s1 p1 => s_set (y_n0 (y_var rfl (Mono.mono s1 hx)) (by omega)) fun u2 H2 s2 p2 => s_set (y_r0 (y_var rfl (Mono.mono (s1.trans s2) hrs)) (by omega)) fun u3 H3 s3 p3 => ?_
  cases p2
  have s13 := (s1.trans s2).trans s3
  refine s_if (yt_or (yt_not (yt_B (y_call (xs.getD 0 0) trivial (ya_cons (y_val rfl) ya_nil)))) fun _ => yt_not (yt_B (y_call (rs.getD 0 [], M.width) (Nat.le_trans r0.1 (by decide)) (ya_cons (y_var rfl p3) (ya_cons (y_width T (y_var rfl (Mono.mono (s2.trans s3) p1))) ya_nil))))) (fun h H4 s4 => s_retO (y_callO 22 trivial (ya_cons y_c ya_nil)) fun u H5 s5 p o => ?_) fun h H4 s4 => ?_
  · rw [hcr, if_pos h] at q
    exact q u H5 (same_delH.trans ((s13.trans s4).trans s5)) (Mono.mono ((s13.trans s4).trans s5) hi) p (off_back ((s13.trans s4)) o)
  rw [hcr, if_neg (by rw [h]; decide)] at q
  have s14 := s13.trans s4
  refine s_set (y_len (ya_cons (y_rows T (y_var rfl (Mono.mono ((s2.trans s3).trans s4) p1))) ya_nil)) fun u5 H5 s5 p5 => ?_
  cases p5
  have s15 := s14.trans s5
  refine s_if (yt_test (y_eqI (y_val rfl) y_c)) (fun h2 H6 s6 => s_retO (y_callO 28 trivial (ya_cons y_c ya_nil)) fun u H7 s7 p o => ?_) fun h2 H6 s6 => ?_
  · rw [decide_eq_true_eq] at h2
    rw [if_pos (by omega)] at q
    exact q u H7 (same_delH.trans ((s15.trans s6).trans s7)) (Mono.mono ((s15.trans s6).trans s7) hi) p (off_back ((s15.trans s6)) o)
  rw [decide_eq_false_iff_not] at h2
  rw [if_neg (by omega)] at q
  have s16 := s15.trans s6
  have p1' : IsPr CP M u1 H6 := Mono.mono ((((s2.trans s3).trans s4).trans s5).trans s6) p1
  have hi' := hi
  obtain ⟨a', dx, pv', cv, ea, i2, i3, i4⟩ := hi'
  cases ea
  refine s_seq ?_
  dsimp only
  refine s_setP T rfl (s16 _ _ i2) (YO.y (yo_program ⟨M.width, M.rows ++ [(rs.getD 0 []) ++ [-(xs.getD 0 0)]], M.goal⟩ (y_width (M := M) T (y_var rfl p1')) (YO.y (yo_cat (R := IsL RN) (y_rows T (y_var rfl p1')) (YO.y (yo_listR (YO.y (yo_cat (R := RN) (y_var rfl (Mono.mono ((s4.trans s5).trans s6) p3)) (y_list1 (y_un (y_val rfl))) (by rw [List.length_singleton]; have := r0.1; omega))))) (by rw [List.length_singleton]; omega))) (y_goal (M := M) T (y_var rfl p1')))) fun v7 H7 H8 s7 e8 p7 => ?_
  have g8 : Same (delH H a) H8 := by
    rw [e8]
    exact del_put (same_delH.trans (s16.trans s7))
  dsimp only
  refine s_retO (yo_list1 (y_val rfl)) fun u H9 s9 p9 o => q u H9 (g8.trans s9) ⟨a, dx, v7, cv, rfl, s9 _ _ (by rw [e8]; exact upd_same), ?_, ?_⟩ p9 (off_del g8 i2 o)
  · exact Mono.mono (P := IsPr CP _) s9 p7
  · exact Mono.mono (g8.trans s9) (Nf.nf i2 i4)
theorem sc_remove_constraint : FnScope ["instance", "numbers", "rows", "program", "place", "remaining"] ["instance", "numbers", "rows"] (defScope (top 70)) := ⟨rfl, rfl, rfl, by decide +kernel, rfl, by decide +kernel, by decide +kernel⟩
theorem o_remove_constraint (T : Txt K mg CI CC CS CP) (D_Program : Di P w K mg base 1 CP ["self", "width", "rows", "goal"] (SpIPr CP)) (D_refusal : Dk P w K mg base 1 "refusal" ["number"] SpRef) : OpDk P w K mg base CI CC CP "remove_constraint" 1 0 true (fun s M xs rs => CB.remM s M (xs.getD 0 0)) := by
  refine T.d_remove_constraint.okG (N := ["instance", "numbers", "rows", "program", "place", "remaining"]) sc_remove_constraint spOp_len ?_
  intro f cdv A outer s H vs E Q hr ⟨st, M, xs, rs, a, xv, rv, e1, hp, pr, oc, hi, hx, hrs, oa, q⟩
  subst e1
  dsimp only at q
  have ok := pr.m
  have few := ok.few
  have hn := oa.n
  have hnn := oa.nn rfl
  have hcr : CB.remM st M (xs.getD 0 0) = if xs.getD 0 0 ≥ (M.rows.length : Int) then (st, [-2]) else (⟨some ⟨M.width, M.rows.take (xs.getD 0 0).toNat ++ M.rows.drop ((xs.getD 0 0).toNat + 1), M.goal⟩, st.cyc⟩, [((M.rows.take (xs.getD 0 0).toNat ++ M.rows.drop ((xs.getD 0 0).toNat + 1)).length : Int)]) := rfl
  obtain ⟨_, hg_NO_CONSTRAINT⟩ := T.k_NO_CONSTRAINT
  refine ⟨_, (pss_cons (ps_set (i := 3) sc_remove_constraint.nd rfl (.inl rfl) (pe_fld (pv 0) rfl)) (pss_cons (ps_set (i := 4) sc_remove_constraint.nd rfl (.inl rfl) (pe_ix ix_list (pv 1) pe_int (fun _ _ => rfl))) (pss_cons (ps_if (pt_cmpR op_ge (pv 4) (pe_callB call_len_seq (by rfl) T.b_len PySem.boot_len (pa_cons (pe_fld (pv 3) rfl) pa_nil)) (nomark _)) (pss_one (ps_ret (D_refusal.call hr (by decide) (by rfl) (pa_cons (pe_glob (v := .int 2) rfl hg_NO_CONSTRAINT ⟨_, rfl⟩) pa_nil)))) pss_nil) (pss_cons (ps_set (i := 5) sc_remove_constraint.nd rfl (.inl rfl) (pe_op op_cat (pe_slice sl_list (pe_fld (pv 3) rfl) po_none (po_some (pv 4))) (pe_slice sl_list (pe_fld (pv 3) rfl) (po_some (pe_op op_add (pv 4) pe_int)) po_none))) (pss_cons (ps_fld (pv 0) (D_Program.call hr (by decide) (by rfl) T.g_Program (pa_cons (pe_fld (pv 3) rfl) (pa_cons (pv 5) (pa_cons (pe_fld (pv 3) rfl) pa_nil)))) rfl) (pss_one (ps_ret (pe_lst (pa_cons (pe_callB call_len_seq (by rfl) T.b_len PySem.boot_len (pa_cons (pv 5) pa_nil)) pa_nil))))))))), ?_⟩
  refine s_set (y_prog T (y_var rfl hi) hp) fun u1 H1 s1 p1 => s_set (y_n0 (y_var rfl (Mono.mono s1 hx)) (by omega)) fun u2 H2 s2 p2 => ?_
  cases p2
  have s12 := s1.trans s2
  refine s_if (yt_test (y_I0 (y_val rfl) (y_len (ya_cons (y_rows T (y_var rfl (Mono.mono s2 p1))) ya_nil)))) (fun h H4 s4 => s_retO (y_callO 2 trivial (ya_cons y_c ya_nil)) fun u H5 s5 p o => ?_) fun h H4 s4 => ?_
  · rw [decide_eq_true_eq] at h
    rw [hcr, if_pos h] at q
    exact q u H5 (same_delH.trans ((s12.trans s4).trans s5)) (Mono.mono ((s12.trans s4).trans s5) hi) p (off_back ((s12.trans s4)) o)
  rw [decide_eq_false_iff_not] at h
  rw [hcr, if_neg h] at q
  have s14 := s12.trans s4
  have ek : xs.getD 0 0 = (((xs.getD 0 0).toNat : Nat) : Int) := by omega
  have ek1 : xs.getD 0 0 + 1 = (((xs.getD 0 0).toNat + 1 : Nat) : Int) := by omega
  have p1' : IsPr CP M u1 H4 := Mono.mono (s2.trans s4) p1
  refine s_set (YO.y (yo_cat (R := IsL RN) (Y.toL (YO.y (yo_sl (R := IsL RN) (lo := none) (y_rows T (y_var rfl p1')) yp_none (yp_some (Y.toN (y_val rfl) ek)))) (cut_to M.rows _)) (Y.toL (YO.y (yo_sl (R := IsL RN) (hi := none) (y_rows T (y_var rfl p1')) (yp_some (Y.toN (y_I0 (y_val rfl) y_c) ek1)) yp_none)) (cut_from M.rows _)) (by rw [List.length_take, List.length_drop]; omega))) fun u5 H5 s5 p5 => s_seq ?_
  have s15 := s14.trans s5
  have p1'' : IsPr CP M u1 H5 := Mono.mono s5 p1'
  have hi' := hi
  obtain ⟨a', dx, pv', cv, ea, i2, i3, i4⟩ := hi'
  cases ea
  dsimp only
  refine s_setP T rfl (s15 _ _ i2) (YO.y (yo_program ⟨M.width, M.rows.take (xs.getD 0 0).toNat ++ M.rows.drop ((xs.getD 0 0).toNat + 1), M.goal⟩ (y_width (M := M) T (y_var rfl p1'')) (y_var rfl p5) (y_goal (M := M) T (y_var rfl p1'')))) fun v7 H7 H8 s7 e8 p7 => ?_
  have g8 : Same (delH H a) H8 := by
    rw [e8]
    exact del_put (same_delH.trans (s15.trans s7))
  have g58 : IsL (IsL RN) (M.rows.take (xs.getD 0 0).toNat ++ M.rows.drop ((xs.getD 0 0).toNat + 1)) u5 H8 := by
    rw [e8]
    exact Mono.mono (del_put (same_delH.trans s7)) (Nf.nf (s15 _ _ i2) p5)
  dsimp only
  refine s_retO (yo_list1 (y_len (ya_cons (y_var rfl g58) ya_nil))) fun u H9 s9 p9 o => q u H9 (g8.trans s9) ⟨a, dx, v7, cv, rfl, s9 _ _ (by rw [e8]; exact upd_same), ?_, ?_⟩ p9 (off_del g8 i2 o)
  · exact Mono.mono (P := IsPr CP _) s9 p7
  · exact Mono.mono (g8.trans s9) (Nf.nf i2 i4)
theorem sc_set_objective : FnScope ["instance", "numbers", "rows", "program", "coefficients"] ["instance", "numbers", "rows"] (defScope (top 71)) := ⟨rfl, rfl, rfl, by decide +kernel, rfl, by decide +kernel, by decide +kernel⟩
theorem o_set_objective (T : Txt K mg CI CC CS CP) (D_Program : Di P w K mg base 1 CP ["self", "width", "rows", "goal"] (SpIPr CP)) (D_refusal : Dk P w K mg base 1 "refusal" ["number"] SpRef) (D_are_coefficients : Dk P w K mg base 2 "are_coefficients" ["numbers", "width"] SpCoefs) : OpDk P w K mg base CI CC CP "set_objective" 0 1 false (fun s M xs rs => CB.objM s M (rs.getD 0 [])) := by
  refine T.d_set_objective.okG (N := ["instance", "numbers", "rows", "program", "coefficients"]) sc_set_objective spOp_len ?_
  intro f cdv A outer s H vs E Q hr ⟨st, M, xs, rs, a, xv, rv, e1, hp, pr, oc, hi, hx, hrs, oa, q⟩
  subst e1
  dsimp only at q
  have hk := oa.k
  have r0 := oa.row (i := 0) (by decide)
  have hcr : CB.objM st M (rs.getD 0 []) = if (!CB.areCoefM (rs.getD 0 []) M.width) = true then (st, [-22]) else (⟨some ⟨M.width, M.rows, rs.getD 0 []⟩, st.cyc⟩, [0]) := rfl
  obtain ⟨_, hg_BAD_ARGUMENT⟩ := T.k_BAD_ARGUMENT
  refine ⟨_, (pss_cons (ps_set (i := 3) sc_set_objective.nd rfl (.inl rfl) (pe_fld (pv 0) rfl)) (pss_cons (ps_set (i := 4) sc_set_objective.nd rfl (.inl rfl) (pe_ix ix_list (pv 2) pe_int (fun _ _ => rfl))) (pss_cons (ps_if (pt_not (pt_val (D_are_coefficients.call hr (by decide) (by rfl) (pa_cons (pv 4) (pa_cons (pe_fld (pv 3) rfl) pa_nil))))) (pss_one (ps_ret (D_refusal.call hr (by decide) (by rfl) (pa_cons (pe_glob (v := .int 22) rfl hg_BAD_ARGUMENT ⟨_, rfl⟩) pa_nil)))) pss_nil) (pss_cons (ps_fld (pv 0) (D_Program.call hr (by decide) (by rfl) T.g_Program (pa_cons (pe_fld (pv 3) rfl) (pa_cons (pe_fld (pv 3) rfl) (pa_cons (pv 4) pa_nil)))) rfl) (pss_one (ps_ret (pe_lst (pa_cons pe_int pa_nil)))))))), ?_⟩
  refine s_set (y_prog T (y_var rfl hi) hp) fun u1 H1 s1 p1 => s_set (y_r0 (y_var rfl (Mono.mono s1 hrs)) (by omega)) fun u3 H3 s3 p3 => ?_
  have s13 := s1.trans s3
  refine s_if (yt_not (yt_B (y_call (rs.getD 0 [], M.width) (Nat.le_trans r0.1 (by decide)) (ya_cons (y_var rfl p3) (ya_cons (y_width T (y_var rfl (Mono.mono s3 p1))) ya_nil))))) (fun h H4 s4 => s_retO (y_callO 22 trivial (ya_cons y_c ya_nil)) fun u H5 s5 p o => ?_) fun h H4 s4 => ?_
  · rw [hcr, if_pos h] at q
    exact q u H5 (same_delH.trans ((s13.trans s4).trans s5)) (Mono.mono ((s13.trans s4).trans s5) hi) p (off_back ((s13.trans s4)) o)
  rw [hcr, if_neg (by rw [h]; decide)] at q
  have s14 := s13.trans s4
  have p1' : IsPr CP M u1 H4 := Mono.mono (s3.trans s4) p1
  have hi' := hi
  obtain ⟨a', dx, pv', cv, ea, i2, i3, i4⟩ := hi'
  cases ea
  refine s_seq ?_
  dsimp only
  refine s_setP T rfl (s14 _ _ i2) (YO.y (yo_program ⟨M.width, M.rows, rs.getD 0 []⟩ (y_width (M := M) T (y_var rfl p1')) (y_rows (M := M) T (y_var rfl p1')) (y_var rfl (Mono.mono s4 p3)))) fun v7 H7 H8 s7 e8 p7 => ?_
  have g8 : Same (delH H a) H8 := by
    rw [e8]
    exact del_put (same_delH.trans (s14.trans s7))
  dsimp only
  refine s_retO (yo_list1 (n := 0) y_c) fun u H9 s9 p9 o => q u H9 (g8.trans s9) ⟨a, dx, v7, cv, rfl, s9 _ _ (by rw [e8]; exact upd_same), ?_, ?_⟩ p9 (off_del g8 i2 o)
  · exact Mono.mono (P := IsPr CP _) s9 p7
  · exact Mono.mono (g8.trans s9) (Nf.nf i2 i4)
theorem sc_set_cycle : FnScope ["instance", "numbers", "rows", "think", "customers", "demands"] ["instance", "numbers", "rows"] (defScope (top 72)) := ⟨rfl, rfl, rfl, by decide +kernel, rfl, by decide +kernel, by decide +kernel⟩
theorem o_set_cycle (T : Txt K mg CI CC CS CP) (D_Cycle : Di P w K mg base 1 CC ["self", "think", "customers", "demands"] (SpICy CC)) (D_refusal : Dk P w K mg base 1 "refusal" ["number"] SpRef) (D_is_cycle : Dk P w K mg base 2 "is_cycle" ["think", "customers", "demands"] SpIsCyc) : OpDk P w K mg base CI CC CP "set_cycle" 2 1 false (fun s M xs rs => CB.cycM s (xs.getD 0 0) (xs.getD 1 0) (rs.getD 0 [])) := by
  refine T.d_set_cycle.okG (N := ["instance", "numbers", "rows", "think", "customers", "demands"]) sc_set_cycle spOp_len ?_
  intro f cdv A outer s H vs E Q hr ⟨st, M, xs, rs, a, xv, rv, e1, hp, pr, oc, hi, hx, hrs, oa, q⟩
  subst e1
  dsimp only at q
  have hk := oa.k
  have hn := oa.n
  have r0 := oa.row (i := 0) (by decide)
  have hcr : CB.cycM st (xs.getD 0 0) (xs.getD 1 0) (rs.getD 0 []) = if (!CB.isCycM (xs.getD 0 0) (xs.getD 1 0) (rs.getD 0 [])) = true then (st, [-22]) else (⟨st.prog, some ⟨xs.getD 0 0, xs.getD 1 0, rs.getD 0 []⟩⟩, [0]) := rfl
  obtain ⟨_, hg_BAD_ARGUMENT⟩ := T.k_BAD_ARGUMENT
  refine ⟨_, (pss_cons (ps_set (i := 3) sc_set_cycle.nd rfl (.inl rfl) (pe_ix ix_list (pv 1) pe_int (fun _ _ => rfl))) (pss_cons (ps_set (i := 4) sc_set_cycle.nd rfl (.inl rfl) (pe_ix ix_list (pv 1) pe_int (fun _ _ => rfl))) (pss_cons (ps_set (i := 5) sc_set_cycle.nd rfl (.inl rfl) (pe_ix ix_list (pv 2) pe_int (fun _ _ => rfl))) (pss_cons (ps_if (pt_not (pt_val (D_is_cycle.call hr (by decide) (by rfl) (pa_cons (pv 3) (pa_cons (pv 4) (pa_cons (pv 5) pa_nil)))))) (pss_one (ps_ret (D_refusal.call hr (by decide) (by rfl) (pa_cons (pe_glob (v := .int 22) rfl hg_BAD_ARGUMENT ⟨_, rfl⟩) pa_nil)))) pss_nil) (pss_cons (ps_fld (pv 0) (D_Cycle.call hr (by decide) (by rfl) T.g_Cycle (pa_cons (pv 3) (pa_cons (pv 4) (pa_cons (pv 5) pa_nil)))) rfl) (pss_one (ps_ret (pe_lst (pa_cons pe_int pa_nil))))))))), ?_⟩
  refine s_set (y_n0 (y_var rfl hx) (by omega)) fun u1 H1 s1 p1 => s_set (y_n1 (y_var rfl (Mono.mono s1 hx)) (by omega)) fun u2 H2 s2 p2 => s_set (y_r0 (y_var rfl (Mono.mono (s1.trans s2) hrs)) (by omega)) fun u3 H3 s3 p3 => ?_
  cases p1
  cases p2
  have s13 := (s1.trans s2).trans s3
  refine s_if (yt_not (yt_B (y_call (xs.getD 0 0, xs.getD 1 0, rs.getD 0 []) (Nat.le_trans r0.1 (by decide)) (ya_cons (y_val rfl) (ya_cons (y_val rfl) (ya_cons (y_var rfl p3) ya_nil)))))) (fun h H4 s4 => s_retO (y_callO 22 trivial (ya_cons y_c ya_nil)) fun u H5 s5 p o => ?_) fun h H4 s4 => ?_
  · rw [hcr, if_pos h] at q
    exact q u H5 (same_delH.trans ((s13.trans s4).trans s5)) (Mono.mono ((s13.trans s4).trans s5) hi) p (off_back ((s13.trans s4)) o)
  rw [hcr, if_neg (by rw [h]; decide)] at q
  have s14 := s13.trans s4
  have hi' := hi
  obtain ⟨a', dx, pv', cv, ea, i2, i3, i4⟩ := hi'
  cases ea
  refine s_seq ?_
  dsimp only
  refine s_setC T rfl (s14 _ _ i2) (YO.y (yo_cycle ⟨xs.getD 0 0, xs.getD 1 0, rs.getD 0 []⟩ (y_val rfl) (y_val rfl) (y_var rfl (Mono.mono s4 p3)))) fun v7 H7 H8 s7 e8 p7 => ?_
  have g8 : Same (delH H a) H8 := by
    rw [e8]
    exact del_put (same_delH.trans (s14.trans s7))
  dsimp only
  refine s_retO (yo_list1 (n := 0) y_c) fun u H9 s9 p9 o => q u H9 (g8.trans s9) ⟨a, dx, pv', v7, rfl, s9 _ _ (by rw [e8]; exact upd_same), ?_, ?_⟩ p9 (off_del g8 i2 o)
  · exact Mono.mono (g8.trans s9) (Nf.nf i2 i3)
  · exact Mono.mono (P := IsCy CC _) s9 p7
end
end WK

/- WkR1 -/
/-! answer_of. -/
namespace WK
open PySem PySem.Spec PyProof.Rows L2
structure StOk (s : CB.MSt) : Prop where
  p : ∀ M, s.prog = some M → PrOk M
  c : ∀ c, s.cyc = some c → OkCyc c
def shN (p : Int) : Nat × Nat := if p = 0 then (1, 0) else if p = 1 then (1, 1) else if p = 2 then (1, 0) else if p = 3 then (0, 1) else if p = 4 then (2, 1) else if p = 11 then (0, 2) else if p = 12 then (1, 2) else if p = 13 then (0, 2) else if p = 14 then (0, 2) else if p = 15 then (0, 2) else if p = 16 then (0, 4) else if p = 21 then (1, 0) else (0, 0)
structure ArgOk (p : Int) (xs : List Int) (rs : List (List Int)) : Prop where
  p0 : 0 ≤ p
  p1 : p ≤ 22
  n : xs.length = (shN p).1
  k : rs.length = (shN p).2
  r : ∀ r ∈ rs, r.length ≤ 10 ∧ BdL 32 r
  nn : p = 2 ∨ p = 12 → 0 ≤ xs.getD 0 0
def SpAns (CI CC CP : Addr) : Sp := fun vs H Q _ => ∃ (s : CB.MSt) (p : Int) (xs : List Int) (rs : List (List Int)) (a : Addr) (xv rv : V), vs = [.ref a, .int p, xv, rv] ∧ StOk s ∧ ArgOk p xs rs ∧ IsIn CI CC CP s (.ref a) H ∧ IsIs xs xv H ∧ IsL (IsL RN) rs rv H ∧
  ∀ v H', Same (delH H a) H' → IsIn CI CC CP (CB.stepM s p xs rs).1 (.ref a) H' → IsIs (CB.stepM s p xs rs).2 v H' → Off H v → Q v H'
theorem spAns_len {CI CC CP : Addr} (vs : List V) (H : Hp) (Q : VK) (E : XK) (h : SpAns CI CC CP vs H Q E) : vs.length = 4 := by
  obtain ⟨s, p, xs, rs, a, xv, rv, e, _⟩ := h
  rw [e]
  rfl
section
variable {P : Program} {w : World} {K : PySem.W.Frag} {mg : Str → Option Value} {base : Heap} {CI CC CS CP : Addr}
/-- an operation of the table -/
def OpAt (P : Program) (w : World) (K : PySem.W.Frag) (mg : Str → Option Value) (base : Heap) (CI CC CP : Addr) (p : Int) : Prop := ∃ (x : Str) (nn : Bool) (g : CB.MSt → CB.MP → List Int → List (List Int) → CB.MSt × List Int), (p, x) ∈ opsTable ∧ OpDk P w K mg base CI CC CP x (shN p).1 (shN p).2 nn g ∧ (nn = true → p = 2 ∨ p = 12) ∧ ∀ s M xs rs, g s M xs rs = CB.opM p s M xs rs
theorem yt_noProg {σ : L2.St} {H : Hp} {st : CB.MSt} (T : Txt K mg CI CC CS CP) {i : Nat} {v : V} (hv : σ[i]? = some (some v)) (h : IsIn CI CC CP st v H) : YT (tB (tIsN (tFld K (tVar i) "program"))) σ H st.prog.isNone := by
  obtain ⟨a, dx, pv, cv, rfl, h2, h3, h4⟩ := h
  refine yt_B (y_is (y_isN (y_fld (P := IsV pv) (y_val hv) h2 T.c_Instance T.a_Instance_program rfl rfl)) ?_)
  cases hc : st.prog with
  | none =>
    rw [hc] at h3
    have : pv = .non := h3
    rw [this]
    rfl
  | some c =>
    rw [hc] at h3
    obtain ⟨b, _, _, _, e, _⟩ := h3
    rw [e]
    rfl
theorem sc_answer_of : FnScope ["instance", "number", "numbers", "rows"] ["instance", "number", "numbers", "rows"] (defScope (top 92)) := ⟨rfl, rfl, rfl, by decide +kernel, rfl, by decide +kernel, by decide +kernel⟩
theorem d_answer_of (T : Txt K mg CI CC CS CP) (D_refusal : Dk P w K mg base 1 "refusal" ["number"] SpRef) (C : Dk P w K mg base 15 "create" ["instance", "numbers", "rows"] (SpCre CI CC CP)) (O : ∀ p : Int, 1 ≤ p → p ≤ 22 → OpAt P w K mg base CI CC CP p) : Dk P w K mg base 16 "answer_of" ["instance", "number", "numbers", "rows"] (SpAns CI CC CP) := by
  refine T.d_answer_of.okG (N := ["instance", "number", "numbers", "rows"]) sc_answer_of spAns_len ?_
  intro f cdv A outer s H vs E Q hr ⟨st, p, xs, rs, a, xv, rv, e1, sok, ao, hi, hx, hrs, q⟩
  subst e1
  obtain ⟨gd, es, n, hg_OPERATIONS, hlk, hik, htab⟩ := T.ops.ex
  obtain ⟨_, hg_CREATE⟩ := T.k_CREATE
  obtain ⟨_, hg_NO_INSTANCE⟩ := T.k_NO_INSTANCE
  refine ⟨_, (pss_cons (ps_if (PW.pt (pw_and (pt_cmpR op_ne (pv 1) (pe_glob (v := .int 0) rfl hg_CREATE ⟨_, rfl⟩) (nomark _)) (pw_and1 (pt_cmp (pc_isN (pe_fld (pv 0) rfl)))))) (pss_one (ps_ret (D_refusal.call hr (by decide) (by rfl) (pa_cons (pe_glob (v := .int 11) rfl hg_NO_INSTANCE ⟨_, rfl⟩) pa_nil)))) pss_nil) (pss_one (ps_ret (pe_callV (pe_ix ix_ki (pe_glob (v := .ref gd) rfl hg_OPERATIONS rfl) (pv 1) (fun _ _ => rfl)) (pa_cons (pv 0) (pa_cons (pv 2) (pa_cons (pv 3) pa_nil))) pass0)))), ?_⟩
  refine s_if (yt_and (yt_test (y_neI (y_val rfl) y_c)) fun _ => yt_noProg T rfl hi) (fun h H1 s1 => s_retO (y_callO 11 trivial (ya_cons y_c ya_nil)) fun u H2 s2 p2 o => ?_) fun h H1 s1 => ?_
  · rw [Bool.and_eq_true] at h
    have hp0 : p ≠ 0 := by simpa using h.1
    have hst : CB.stepM st p xs rs = (st, [-11]) := by
      unfold CB.stepM
      rw [Option.isNone_iff_eq_none.mp h.2]
      exact if_neg hp0
    rw [hst] at q
    exact q u H2 (same_delH.trans (s1.trans s2)) (Mono.mono (s1.trans s2) hi) p2 (off_back s1 o)
  have hi1 : IsIn CI CC CP st (.ref a) H1 := Mono.mono s1 hi
  have hx1 : IsIs xs xv H1 := Mono.mono s1 hx
  have hr1 : IsL (IsL RN) rs rv H1 := Mono.mono s1 hrs
  have q1 : ∀ v H', Same (delH H1 a) H' → IsIn CI CC CP (CB.stepM st p xs rs).1 (.ref a) H' → IsIs (CB.stepM st p xs rs).2 v H' → Off H1 v → Q v H' := fun v H' g i r o => q v H' (fun b ob hb => g _ _ (by
    rw [delH_ne (delH_some hb).1]
    exact s1 _ _ (delH_some hb).2)) i r (off_back s1 o)
  have args : ∀ Qa : List V → Hp → Prop, (Qa [.ref a, xv, rv] H1) → tCons (tVar 0) (tCons (tVar 2) (tCons (tVar 3) tNil)) [some (.ref a), some (.int p), some xv, some rv] H1 Qa := fun Qa k => ⟨_, rfl, _, rfl, _, rfl, k⟩
  have key : ∀ (x : Str) (sp : Sp), (p, x) ∈ opsTable → Dk P w K mg base 15 x ["instance", "numbers", "rows"] sp → sp [.ref a, xv, rv] H1 Q E0 → ∃ (f : Addr), findBy Value.isInt es p = some (.ref f) ∧ PySem.W.keepIn K (.ref f) = true ∧ ∃ (fd : FuncData), FnOk P w K mg base CX0 15 f fd ["instance", "numbers", "rows"] sp ∧ Binds K fd ["instance", "numbers", "rows"] [] := by
    intro x sp hm D _
    obtain ⟨f1, h1, h2⟩ := htab (p, x) hm
    obtain ⟨f2, fd, h3, h4, h5, h6⟩ := D.ex
    rw [h2] at h3
    cases h3
    exact ⟨f1, h1, h4, fd, h5, h6⟩
  have fin : ∀ (x : Str) (sp : Sp), (p, x) ∈ opsTable → Dk P w K mg base 15 x ["instance", "numbers", "rows"] sp → sp [.ref a, xv, rv] H1 Q E0 → tRet (tCallV (cxOf CX0 P w K mg base ["instance", "number", "numbers", "rows"] "answer_of" (defScope (top 92)) f cdv A outer s H E).nox CX0 (tOp (rKI K) (tC (.ref gd)) (tVar 1)) E0 (tCons (tVar 0) (tCons (tVar 2) (tCons (tVar 3) tNil)))) { nx := fun _ H' => Q .non H', rt := Q } [some (.ref a), some (.int p), some xv, some rv] H1 := by
    intro x sp hm D hsp
    obtain ⟨f1, h1, h4, fd, h5, h6⟩ := key x sp hm D hsp
    exact ⟨_, rfl, gd, es, n, p, .ref f1, .ref f1, rfl, rfl, hlk, hik, h1, rfl, f1, rfl, h4, args _ ⟨fd, _, sp, 15, h5, hr.mono (by decide), h6, hsp⟩⟩
  by_cases hp0 : p = 0
  · subst hp0
    have hst : CB.stepM st 0 xs rs = CB.createM st (xs.getD 0 0) := by
      unfold CB.stepM
      cases st.prog <;> rfl
    rw [hst] at q1
    exact fin "create" _ (by decide) C ⟨st, xs, a, xv, rv, rfl, hi1, hx1, ao.n, q1⟩
  · have hpn : st.prog.isNone = false := by
      rw [Bool.and_eq_false_iff] at h
      rcases h with h | h
      · exact absurd (by simpa using h) hp0
      · exact h
    cases hM : st.prog with
    | none =>
      rw [hM] at hpn
      cases hpn
    | some M =>
      have hst : CB.stepM st p xs rs = CB.opM p st M xs rs := by
        unfold CB.stepM
        rw [hM]
      obtain ⟨x, nn, g, hm, D, hnn, hg⟩ := O p (by have := ao.p0; omega) ao.p1
      rw [hst, ← hg] at q1
      exact fin x _ hm D ⟨st, M, xs, rs, a, xv, rv, rfl, hM, sok.p M hM, sok.c, hi1, hx1, hr1, ⟨ao.n, ao.k, ao.r, fun e => ao.nn (hnn e)⟩, q1⟩
end
end WK

/- WkR2 -/
/-! Reading the calls. -/
namespace WK
open PySem PySem.Spec PyProof.Rows L2
/-! ### a list that was handed in -/
def IsQ (K : PySem.W.Frag) (l : List Int) : V → Hp → Prop := fun v H => ∃ p, v = .ref p ∧ SqL K H p (l.map V.int)
theorem sqL_mono {K : PySem.W.Frag} {H H' : Hp} {a : Addr} {xs : List V} (e : Same H H') (h : SqL K H a xs) : SqL K H' a xs := by
  rcases h with (h | ⟨o, h⟩) | h
  · exact .inl (.inl (e _ _ h))
  · exact .inl (.inr ⟨o, e _ _ h⟩)
  · exact .inr h
instance (K : PySem.W.Frag) (l : List Int) : Mono (IsQ K l) := ⟨fun e ⟨p, a, b⟩ => ⟨p, a, sqL_mono e b⟩⟩
/-- without the lists that were there -/
def nl (H H' : Hp) : Hp := fun a => match H a with
  | some (.lst _) => none
  | _ => H' a
theorem nl_at {H H' : Hp} {a : Addr} {o : HO} (h : H' a = some o) (k : ∀ xs, H a ≠ some (.lst xs)) : nl H H' a = some o := by
  unfold nl
  split
  · rename_i xs e
    exact absurd e (k xs)
  · exact h
theorem nl_some {H H' : Hp} {a : Addr} {o : HO} (h : nl H H' a = some o) : (∀ xs, H a ≠ some (.lst xs)) ∧ H' a = some o := by
  unfold nl at h
  split at h
  · cases h
  · rename_i k
    exact ⟨fun xs e => k xs e, h⟩
theorem same_nl {H H1 H2 : Hp} (e : Same H1 H2) : Same (nl H H1) (nl H H2) := fun a o h => by
  obtain ⟨k, h'⟩ := nl_some h
  exact nl_at (e _ _ h') k
theorem nl_same {H H1 : Hp} : Same (nl H H1) H1 := fun a o h => (nl_some h).2
theorem nl_upd {H H1 : Hp} {d : Addr} {o : HO} (hd : H d = none) : nl H (upd H1 d o) = upd (nl H H1) d o := by
  funext a
  by_cases e : a = d
  · subst e
    rw [upd_same]
    exact nl_at upd_same (by rw [hd]; intro xs z; cases z)
  · rw [upd_ne e]
    unfold nl
    rw [upd_ne e]
theorem off_nl {H H1 : Hp} {ns : List Int} {v : V} (h : IsIs ns v H1) (o : Off H v) : IsIs ns v (nl H H1) := by
  obtain ⟨p, rfl, hp⟩ := isIs_iff.mp h
  exact isIs_mk (nl_at hp fun xs e => o p xs e rfl)
theorem nl_tup {H H1 : Hp} {q : Addr} {xs : List V} (s : Same H H1) (h : H1 q = some (.tup xs)) : nl H H1 q = some (.tup xs) := nl_at h fun ys e => by
  rw [s _ _ e] at h
  cases h
theorem cut_mid {δ : Type} (xs : List δ) {a b : Nat} (h1 : a ≤ b) (h2 : b ≤ xs.length) : cutG xs (some (a : Int)) (some (b : Int)) = (xs.drop a).take (b - a) := by
  have e1 : HT.sIx xs.length 0 (some (a : Int)) = a := by
    show (if (a : Int) < 0 then ((a : Int) + (xs.length : Int)).toNat else min (a : Int).toNat xs.length) = _
    rw [if_neg (by omega)]
    omega
  have e2 : HT.sIx xs.length xs.length (some (b : Int)) = b := by
    show (if (b : Int) < 0 then ((b : Int) + (xs.length : Int)).toNat else min (b : Int).toNat xs.length) = _
    rw [if_neg (by omega)]
    omega
  unfold cutG
  rw [e1, e2]
section
variable {σ : L2.St} {H : Hp} {te ta tb tc tl : TE} {K : PySem.W.Frag} {A : List V → Hp → Prop} {D : Ends}
theorem y_ixQ {ns : List Int} {i n : Int} (ha : Y ta σ H (IsQ K ns)) (hb : Y tb σ H (IsN i)) (h : atI ns i = some n) : Y (tOp (rIxL K) ta tb) σ H (IsN n) := fun H1 e Q q =>
  ha H1 e _ fun x H2 e2 ⟨p, hx1, hx2⟩ => hb H2 (e.trans e2) _ fun y H3 e3 hy => ⟨p, _, i, _, hx1, hy, sqL_mono e3 hx2, atI_map V.int h, q _ H3 (e2.trans e3) rfl⟩
theorem y_lenQ {ns : List Int} {ta : TA} (h : YA ta σ H (AC (IsQ K ns) AN)) : Y (tCB (fun xs H Q => ∃ p ys, xs = [.ref p] ∧ (SqL K H p ys ∨ SqT K H p ys) ∧ Q (.int ys.length) H) ta) σ H (IsN (ns.length : Int)) := y_cb h fun vs H1 e ⟨v, r, a, ⟨p, x, y⟩, c⟩ Q q => by
  refine ⟨p, _, by rw [a, x, c], .inl y, q _ _ (Same.refl _) ?_⟩
  rw [List.length_map]
  rfl
theorem yo_slQ {ns : List Int} {tl th : TO} {lo hi : Option Int} (h : Y te σ H (IsQ K ns)) (h1 : YP tl σ H lo) (h2 : YP th σ H hi) : YO (tSl (rSlL K) te tl th) σ H (IsIs (cutG ns lo hi)) := fun H1 e Q q =>
  h H1 e _ fun v H2 e2 ⟨p, a, b⟩ => h1 H2 (e.trans e2) _ fun H3 e3 => h2 H3 ((e.trans e2).trans e3) _ fun H4 e4 =>
  ⟨p, _, a, sqL_mono (e3.trans e4) b, fun p' np => q _ _ (((e2.trans e3).trans e4).trans (Same.new np)) (isIs_mk (by rw [upd_same, cut_map])) fun D us hd z => by
    cases z
    rw [((e2.trans e3).trans e4) _ _ hd] at np
    cases np⟩
theorem yo_tup {ta : TA} {P : V → Hp → Prop} (h : YA ta σ H A) [MonoA A] (hl : ∀ vs H', A vs H' → vs.length ≤ 1000) (hp : ∀ vs p H', A vs H' → H' p = some (.tup vs) → P (.ref p) H') : YO (tTup ta) σ H P := fun H1 e Q q =>
  h H1 e _ fun vs H2 e2 a => ⟨Nat.le_trans (hl _ _ a) (by decide), fun p np => q _ _ (e2.trans (Same.new np)) (hp vs p _ (MonoA.mono (Same.new np) a) upd_same) fun D us hd z => by
    cases z
    rw [e2 _ _ hd] at np
    cases np⟩
/-- xs.append(e), e new -/
theorem s_appendN {tr : TE} {P : V → Hp → Prop} {d : Addr} {xs : List V} (ho : Y tr σ H (IsV (.ref d))) (hd : H d = some (.lst xs)) (hl : xs.length < 100000) (h : YO te σ H P) (k : ∀ v H1, Same H H1 → P v H1 → Off H v → v ≠ .ref d → H1 d = some (.lst xs) → D.nx σ (upd H1 d (.lst (xs ++ [v])))) : tDrop (tBM K "list" rAppend tr (tCons te tNil)) D σ H :=
  ho H (Same.refl _) _ fun x H1 e hx => by
    cases hx
    refine ⟨.inl ⟨rfl, _, SqL.of (e _ _ hd)⟩, ?_⟩
    refine h H1 e _ fun v H2 e2 p o => ⟨d, xs, v, rfl, rfl, e2 _ _ (e _ _ hd), Nat.lt_of_lt_of_le hl (by decide), k v H2 (e.trans e2) p (off_back e o) (o d _ (e _ _ hd)) (e2 _ _ (e _ _ hd))⟩
theorem s_asgG {g : TG} {sp : Sp} {E : XK} {ta : TA} (h : YA ta σ H A) (k : ∀ vs H1, Same H H1 → A vs H1 → sp vs H1 (fun x H2 => g x σ H2 D.nx) E) : tAsg (tCall sp [] E ta) g D σ H :=
  h H (Same.refl _) _ fun vs H1 e a => by
    rw [List.append_nil]
    exact k vs H1 e a
end
/-! ### the plain reading, step by step -/
theorem drop_cons {l : List Int} {i : Nat} {n : Int} {r : List Int} (h : l.drop i = n :: r) : i < l.length ∧ l[i]? = some n ∧ r = l.drop (i + 1) := by
  have hi : i < l.length := by
    rcases Nat.lt_or_ge i l.length with c | c
    · exact c
    · rw [List.drop_of_length_le c] at h
      cases h
  rw [List.drop_eq_getElem_cons hi] at h
  cases h
  exact ⟨hi, List.getElem?_eq_getElem hi, rfl⟩
theorem rows_succ {k : Nat} {l : List Int} {i : Nat} {xs : List (List Int)} {t : List Int} (h : PyFlat.rows (k + 1) (l.drop i) = some (xs, t)) : ∃ (n : Int) (xs' : List (List Int)), i < l.length ∧ l[i]? = some n ∧ 0 ≤ n ∧ i + 1 + n.toNat ≤ l.length ∧ xs = ((l.drop (i + 1)).take n.toNat) :: xs' ∧ PyFlat.rows k (l.drop (i + 1 + n.toNat)) = some (xs', t) := by
  unfold PyFlat.rows at h
  cases e : l.drop i with
  | nil =>
    rw [e] at h
    cases h
  | cons n r =>
    rw [e] at h
    obtain ⟨hi, hn, hr⟩ := drop_cons e
    unfold PyFlat.row at h
    dsimp only at h
    by_cases c : 0 ≤ n ∧ n.toNat ≤ r.length
    · rw [if_pos c] at h
      dsimp only at h
      cases e2 : PyFlat.rows k (r.drop n.toNat) with
      | none =>
        rw [e2] at h
        cases h
      | some p =>
        obtain ⟨xs', t'⟩ := p
        rw [e2] at h
        cases h
        subst hr
        rw [List.drop_drop] at e2
        have := c.2
        rw [List.length_drop] at this
        exact ⟨n, xs', hi, hn, c.1, by omega, rfl, e2⟩
    · rw [if_neg c] at h
      cases h
theorem rows_len : ∀ {k : Nat} {l : List Int} {xs : List (List Int)} {t : List Int}, PyFlat.rows k l = some (xs, t) → xs.length = k
  | 0, l, xs, t, h => by
    unfold PyFlat.rows at h
    cases h
    rfl
  | k + 1, l, xs, t, h => by
    have h' : PyFlat.rows (k + 1) (l.drop 0) = some (xs, t) := h
    obtain ⟨n, xs', _, _, _, _, e, h2⟩ := rows_succ h'
    rw [e, List.length_cons, rows_len h2]
section
variable {P : Program} {w : World} {K : PySem.W.Frag} {mg : Str → Option Value} {base : Heap} {CI CC CS CP : Addr}
def SpRR (K : PySem.W.Frag) : Sp := fun vs H Q _ => ∃ (l : List Int) (cv : V) (pl k : Nat) (xs : List (List Int)) (t : List Int), vs = [cv, .int (pl : Int), .int (k : Int)] ∧ IsQ K l cv H ∧ l.length ≤ 10000 ∧ pl ≤ l.length ∧ k ≤ 100 ∧ PyFlat.rows k (l.drop pl) = some (xs, t) ∧
  ∀ H' q rv (pl' : Nat), Same H H' → H' q = some (.tup [rv, .int (pl' : Int)]) → IsL (IsL RN) xs rv (nl H H') → pl' ≤ l.length → pl ≤ pl' → l.drop pl' = t → Q (.ref q) H'
theorem spRR_len {K : PySem.W.Frag} (vs : List V) (H : Hp) (Q : VK) (E : XK) (h : SpRR K vs H Q E) : vs.length = 3 := by
  obtain ⟨l, cv, pl, k, xs, t, e, _⟩ := h
  rw [e]
  rfl
theorem sc_read_rows : FnScope ["calls", "place", "count", "rows", "turn", "begin", "end"] ["calls", "place", "count"] (defScope (top 95)) := ⟨rfl, rfl, rfl, by decide +kernel, rfl, by decide +kernel, by decide +kernel⟩
theorem d_read_rows (T : Txt K mg CI CC CS CP) : Dk P w K mg base 1 "read_rows" ["calls", "place", "count"] (SpRR K) := by
  refine T.d_read_rows.okG (N := ["calls", "place", "count", "rows", "turn", "begin", "end"]) sc_read_rows spRR_len ?_
  intro f cdv A outer s H vs E Q hr ⟨l, cv, pl, k, xs, t, e1, hq, hl, hpl, hk, hrows, q⟩
  subst e1
  refine ⟨_, (pss_cons (ps_set (i := 3) sc_read_rows.nd rfl (.inl rfl) (pe_lst pa_nil)) (pss_cons (ps_for PassesOwn.never rfl (pi_range1 (by rfl) T.b_range (pa_cons (pv 2) pa_nil)) (pg_name (i := 4) sc_read_rows.nd rfl (.inl rfl)) (pss_cons (ps_set (i := 5) sc_read_rows.nd rfl (.inl rfl) (pe_op op_add (pv 1) pe_int)) (pss_cons (ps_set (i := 6) sc_read_rows.nd rfl (.inl rfl) (pe_op op_add (pv 5) (pe_ix ix_list (pv 0) (pv 1) (fun _ _ => rfl)))) (pss_cons (ps_expr (pe_bm PySem.F.plainAttrs_list PySem.F.slot_list_append PySem.F.type_list_append mt_append (pv 3) (pa_cons (pe_slice sl_list (pv 0) (po_some (pv 5)) (po_some (pv 6))) pa_nil))) (pss_one (ps_set (i := 1) sc_read_rows.nd rfl (.inl rfl) (pv 6))))))) (pss_one (ps_ret (pe_tup (pa_cons (pv 3) (pa_cons (pv 1) pa_nil))))))), ?_⟩
  refine s_new fun d hd => s_seq ?_
  have s0 : Same H (upd H d (.lst [])) := Same.new hd
  have xl := rows_len hrows
  refine s_forR (n := (k : Int)) (by omega) (by omega) (ya_cons (y_val rfl) ya_nil) (fun j σ' H' => ∃ (pj : Nat) (z4 z5 z6 : Option V) (vs : List V), σ' = [some cv, some (.int (pj : Int)), some (.int (k : Int)), some (.ref d), z4, z5, z6] ∧ H' d = some (.lst vs) ∧ Each (IsL RN) (xs.take j) vs (nl H H') ∧ (∀ y ∈ vs, y ≠ .ref d) ∧ Same H H' ∧ pj ≤ l.length ∧ pl ≤ pj ∧ PyFlat.rows (k - j) (l.drop pj) = some (xs.drop j, t)) (fun H1 s1 => ⟨pl, none, none, none, [], rfl, s1 _ _ upd_same, trivial, fun y hy => absurd hy List.not_mem_nil, s0.trans s1, hpl, Nat.le_refl _, hrows⟩) ?_ ?_
  · rintro j hj σ' H' ⟨pj, z4, z5, z6, vs, rfl, g1, g2, g3, g4, g5, g6, g7⟩
    have hj' : j < k := by omega
    have ekj : k - j = (k - (j + 1)) + 1 := by omega
    rw [ekj] at g7
    obtain ⟨n, xs', r1, r2, r3, r4, r5, r6⟩ := rows_succ g7
    dsimp only [List.set]
    refine s_set (y_I0 (y_val rfl) y_c) fun u1 H1 s1 p1 => ?_
    have e1 : (pj : Int) + 1 = ((pj + 1 : Nat) : Int) := by omega
    rw [e1] at p1
    cases p1
    refine s_set (y_I0 (y_val rfl) (y_ixQ (y_var rfl (Mono.mono (g4.trans s1) hq)) (y_val rfl) (atI_nat r2))) fun u2 H2 s2 p2 => s_seq ?_
    have e2 : ((pj + 1 : Nat) : Int) + n = ((pj + 1 + n.toNat : Nat) : Int) := by omega
    rw [e2] at p2
    cases p2
    have s12 := s1.trans s2
    have hlen : vs.length ≤ 100 := by
      rw [g2.length, List.length_take]
      omega
    refine s_appendN (P := IsIs ((l.drop (pj + 1)).take n.toNat)) (y_val rfl) (s12 _ _ g1) (by omega) (YO.toL (yo_slQ (y_var rfl (Mono.mono (g4.trans s12) hq)) (yp_some (y_val rfl)) (yp_some (y_val rfl))) (by rw [cut_mid l (by omega) r4]; congr 1; omega)) fun u3 H3 s3 p3 o3 n3 h3 => ?_
    have s13 := s12.trans s3
    refine s_set1 (y_val rfl) fun u4 H4 s4 p4 => ?_
    cases p4
    refine ⟨pj + 1 + n.toNat, _, _, _, vs ++ [u3], rfl, s4 _ _ upd_same, ?_, ?_, (Same.mut (g4.trans s13) hd).trans s4, r4, by omega, ?_⟩
    · have hx : xs.take (j + 1) = xs.take j ++ [(l.drop (pj + 1)).take n.toNat] := by
        refine take_snoc ?_
        have : (xs.drop j)[0]? = some ((l.drop (pj + 1)).take n.toNat) := by rw [r5]; rfl
        rw [List.getElem?_drop] at this
        exact this
      rw [hx]
      refine Each.mono (same_nl s4) ?_
      rw [nl_upd hd]
      have o3H : Off H u3 := off_back (g4.trans s12) o3
      refine Each.snoc ((inferInstance : Sh (IsIs _)).sh (off_nl p3 o3H) n3) (each_sh (Each.mono (same_nl s13) g2) g3)
    · intro y hy
      rcases List.mem_append.mp hy with h | h
      · exact g3 y h
      · rw [List.mem_singleton.mp h]
        exact n3
    · have : xs.drop (j + 1) = xs' := by
        have := congrArg (List.drop 1) r5
        rw [List.drop_drop] at this
        exact this
      rw [this]
      exact r6
  · rintro σ' H' ⟨pj, z4, z5, z6, vs, rfl, g1, g2, g3, g4, g5, g6, g7⟩
    have ek : ((k : Int)).toNat = k := by omega
    rw [ek] at g2 g7
    rw [List.take_of_length_le (by omega)] at g2
    rw [Nat.sub_self] at g7
    have e3 : l.drop pj = t := by
      have g8 : some (([] : List (List Int)), l.drop pj) = some (xs.drop k, t) := g7
      exact congrArg Prod.snd (Option.some.inj g8)
    dsimp only
    refine s_ret (P := fun v' H'' => ∃ q', v' = .ref q' ∧ H'' q' = some (.tup [.ref d, .int (pj : Int)])) (y_tup (ya_cons (y_val rfl) (ya_cons (y_val rfl) ya_nil)) (fun vs H' ⟨v, r, a, b, v2, r2, c, d, e⟩ => by rw [a, c, e]; show 2 ≤ 1000; decide) fun vs p H' ⟨v, r, a, b, v2, r2, c, d, e⟩ hp => ⟨p, rfl, by rw [hp, a, b, c, d, e]⟩) fun u5 H5 s5 ⟨q', e5, h5⟩ => ?_
    rw [e5]
    exact q H5 q' (.ref d) pj (g4.trans s5) h5 ⟨d, vs, rfl, nl_at (s5 _ _ g1) (by rw [hd]; intro xs z; cases z), Each.mono (same_nl s5) g2⟩ g5 g6 e3
end
end WK

/- WkR3 -/
/-! Reading the calls: the whole. -/
namespace WK
open PySem PySem.Spec PyProof.Rows L2
theorem shape_few : ∀ i : Nat, i < 23 → ((PyLrx6.shape (i : Int)).all fun q => (decide (q.1 < 3) && decide (q.2 < 5)) && (decide (shapesTable[i]? = some ((q.1 : Int), (q.2 : Int))) && decide (q = shN (i : Int)))) = true := by decide +kernel
theorem shape_out {p : Int} (h : ¬ (0 ≤ p ∧ p ≤ 22)) : PyLrx6.shape p = none := by
  unfold PyLrx6.shape
  repeat rw [if_neg (by omega)]
theorem shape_at {p : Int} {n k : Nat} (h : PyLrx6.shape p = some (n, k)) : 0 ≤ p ∧ p ≤ 22 ∧ shapesTable[p.toNat]? = some ((n : Int), (k : Int)) ∧ (n, k) = shN p ∧ n ≤ 2 ∧ k ≤ 4 := by
  by_cases c : 0 ≤ p ∧ p ≤ 22
  · have e : ((p.toNat : Nat) : Int) = p := by omega
    have h1 := shape_few p.toNat (by omega)
    rw [e, h] at h1
    have h2 : ((decide (n < 3) && decide (k < 5)) && (decide (shapesTable[p.toNat]? = some ((n : Int), (k : Int))) && decide ((n, k) = shN p))) = true := h1
    rw [Bool.and_eq_true, Bool.and_eq_true, Bool.and_eq_true, decide_eq_true_eq, decide_eq_true_eq, decide_eq_true_eq, decide_eq_true_eq] at h2
    exact ⟨c.1, c.2, h2.2.1, h2.2.2, by omega, by omega⟩
  · rw [shape_out c] at h
    cases h
theorem calls_succ {f : Nat} {l : List Int} {i : Nat} {cs : List (List (List Int))} (hi : i < l.length) (h : PyFlat.calls PyLrx6.shape f (l.drop i) = some cs) : ∃ (f' : Nat) (p : Int) (n k : Nat) (xs : List (List Int)) (t : List Int) (cs' : List (List (List Int))), l[i]? = some p ∧ PyLrx6.shape p = some (n, k) ∧ i + 1 + n ≤ l.length ∧ PyFlat.rows k (l.drop (i + 1 + n)) = some (xs, t) ∧ cs = ((p :: (l.drop (i + 1)).take n) :: xs) :: cs' ∧ PyFlat.calls PyLrx6.shape f' t = some cs' := by
  cases e : l.drop i with
  | nil =>
    have := congrArg List.length e
    rw [List.length_drop] at this
    simp at this
    omega
  | cons p r =>
    obtain ⟨_, hp, hr⟩ := drop_cons e
    rw [e] at h
    cases f with
    | zero =>
      unfold PyFlat.calls at h
      cases h
    | succ f =>
      unfold PyFlat.calls at h
      cases e2 : PyFlat.call PyLrx6.shape (p :: r) with
      | none =>
        rw [e2] at h
        cases h
      | some ct =>
        obtain ⟨c, t⟩ := ct
        rw [e2] at h
        dsimp only at h
        cases e3 : PyFlat.calls PyLrx6.shape f t with
        | none =>
          rw [e3] at h
          cases h
        | some cs' =>
          rw [e3] at h
          have hcs := Option.some.inj h
          unfold PyFlat.call at e2
          dsimp only at e2
          cases e4 : PyLrx6.shape p with
          | none =>
            rw [e4] at e2
            cases e2
          | some nk =>
            obtain ⟨n, k⟩ := nk
            rw [e4] at e2
            dsimp only at e2
            by_cases c1 : r.length < n
            · rw [if_pos c1] at e2
              cases e2
            · rw [if_neg c1] at e2
              cases e5 : PyFlat.rows k (r.drop n) with
              | none =>
                rw [e5] at e2
                cases e2
              | some xt =>
                obtain ⟨xs, t'⟩ := xt
                rw [e5] at e2
                have h1 := Option.some.inj e2
                have h2 := congrArg Prod.fst h1
                have h3 := congrArg Prod.snd h1
                dsimp only at h2 h3
                subst h3
                rw [hr, List.drop_drop] at e5
                rw [hr, List.length_drop] at c1
                exact ⟨f, p, n, k, xs, t', cs', hp, e4, by omega, e5, by rw [← hcs, ← h2, hr], e3⟩
def RC (c : List (List Int)) : V → Hp → Prop := fun v H => ∃ p xs rs q xv rv, c = (p :: xs) :: rs ∧ v = .ref q ∧ H q = some (.tup [.int p, xv, rv]) ∧ IsIs xs xv H ∧ IsL (IsL RN) rs rv H
instance (c : List (List Int)) : Mono (RC c) := ⟨fun e ⟨p, xs, rs, q, xv, rv, h1, h2, h3, h4, h5⟩ => ⟨p, xs, rs, q, xv, rv, h1, h2, e _ _ h3, Mono.mono e h4, Mono.mono e h5⟩⟩
section
variable {P : Program} {w : World} {K : PySem.W.Frag} {mg : Str → Option Value} {base : Heap} {CI CC CS CP : Addr}
def SpRC (K : PySem.W.Frag) : Sp := fun vs H Q _ => ∃ (l : List Int) (cv : V) (f : Nat) (cs : List (List (List Int))), vs = [cv] ∧ IsQ K l cv H ∧ l.length ≤ 10000 ∧ PyFlat.calls PyLrx6.shape f l = some cs ∧
  ∀ H' v, Same H H' → IsL RC cs v (nl H H') → Q v H'
theorem spRC_len {K : PySem.W.Frag} (vs : List V) (H : Hp) (Q : VK) (E : XK) (h : SpRC K vs H Q E) : vs.length = 1 := by
  obtain ⟨l, cv, f, cs, e, _⟩ := h
  rw [e]
  rfl
theorem y_shape {σ : L2.St} {H : Hp} {te : TE} {ga : Addr} {bs : List Addr} {p : Int} {n k : Int} (hs : ∀ H : Hp, SqT K H ga (bs.map V.ref)) (hl : bs.length = shapesTable.length) (hb : ∀ (i : Nat) (b : Addr) (p : Int × Int), bs[i]? = some b → shapesTable[i]? = some p → ∀ H : Hp, SqT K H b [.int p.1, .int p.2]) (h : Y te σ H (IsN p)) (p0 : 0 ≤ p) (hp : shapesTable[p.toNat]? = some (n, k)) :
    Y (tOp (rIxT K) (tC (.ref ga)) te) σ H (fun v _ => ∃ b, v = .ref b ∧ ∀ H : Hp, SqT K H b [.int n, .int k]) := fun H1 e Q q => h H1 e _ fun v H2 e2 hv => by
  have hi := (List.getElem?_eq_some_iff.mp hp).1
  have hbi : bs[p.toNat]? = some (bs[p.toNat]'(by omega)) := List.getElem?_eq_getElem _
  refine ⟨ga, _, p, .ref (bs[p.toNat]'(by omega)), rfl, hv, hs _, ?_, q _ H2 e2 ⟨_, rfl, fun H => hb _ _ _ hbi hp H⟩⟩
  have e3 : p = ((p.toNat : Nat) : Int) := by omega
  have : atI (bs.map V.ref) ((p.toNat : Nat) : Int) = some (.ref (bs[p.toNat]'(by omega))) := atI_nat (by rw [List.getElem?_map, hbi]; rfl)
  rw [← e3] at this
  exact this
theorem del_upd {H H1 : Hp} {d : Addr} {o : HO} : delH (nl H (upd H1 d o)) d = delH (nl H H1) d := by
  funext a
  by_cases e : a = d
  · rw [e]
    exact (if_pos rfl).trans (if_pos rfl).symm
  · rw [delH_ne e, delH_ne e]
    unfold nl
    rw [upd_ne e]
theorem same_del2 {H H1 : Hp} {d : Addr} (h : Same H H1) : Same (delH H d) (delH H1 d) := fun a o e => by
  rw [delH_ne (delH_some e).1]
  exact h _ _ (delH_some e).2
theorem map_take_snoc {α : Type} {cs : List α} {j : Nat} {c : α} {cs' : List α} (h : cs.drop j = c :: cs') : cs.take (j + 1) = cs.take j ++ [c] ∧ cs.drop (j + 1) = cs' := by
  have h0 : (cs.drop j)[0]? = some c := by rw [h]; rfl
  rw [List.getElem?_drop] at h0
  refine ⟨take_snoc h0, ?_⟩
  have := congrArg (List.drop 1) h
  rw [List.drop_drop] at this
  exact this
theorem sc_read_calls : FnScope ["calls", "found", "place", "number", "singles", "row_count", "behind", "numbers", "rows"] ["calls"] (defScope (top 96)) := ⟨rfl, rfl, rfl, by decide +kernel, rfl, by decide +kernel, by decide +kernel⟩
theorem d_read_calls (T : Txt K mg CI CC CS CP) (D_read_rows : Dk P w K mg base 1 "read_rows" ["calls", "place", "count"] (SpRR K)) : Dk P w K mg base 2 "read_calls" ["calls"] (SpRC K) := by
  refine T.d_read_calls.okG (N := ["calls", "found", "place", "number", "singles", "row_count", "behind", "numbers", "rows"]) sc_read_calls spRC_len ?_
  intro f cdv A outer s H vs E Q hr ⟨l, cv, fu, cs, e1, hq, hl, hcs, q⟩
  subst e1
  obtain ⟨gd, bs, hg_SHAPES, hS1, hS2, hS3⟩ := T.shapes.ex
  refine ⟨_, (pss_cons (ps_set (i := 1) sc_read_calls.nd rfl (.inl rfl) (pe_lst pa_nil)) (pss_cons (ps_set (i := 2) sc_read_calls.nd rfl (.inl rfl) pe_int) (pss_cons (ps_while PassesOwn.never (pt_cmpR op_lt (pv 2) (pe_callB call_len_seq (by rfl) T.b_len PySem.boot_len (pa_cons (pv 0) pa_nil)) (nomark _)) (pss_cons (ps_set (i := 3) sc_read_calls.nd rfl (.inl rfl) (pe_ix ix_list (pv 0) (pv 2) (fun _ _ => rfl))) (pss_cons (ps_asg (pe_ix ix_tup (pe_glob (v := .ref gd) rfl hg_SHAPES rfl) (pv 3) (fun _ _ => rfl)) (pg_tup (by rfl) (pgs_cons (pg_name (i := 4) sc_read_calls.nd rfl (.inl rfl)) (pgs_cons (pg_name (i := 5) sc_read_calls.nd rfl (.inl rfl)) pgs_nil)))) (pss_cons (ps_set (i := 6) sc_read_calls.nd rfl (.inl rfl) (pe_op op_add (pe_op op_add (pv 2) pe_int) (pv 4))) (pss_cons (ps_set (i := 7) sc_read_calls.nd rfl (.inl rfl) (pe_slice sl_list (pv 0) (po_some (pe_op op_add (pv 2) pe_int)) (po_some (pv 6)))) (pss_cons (ps_asg (D_read_rows.call hr (by decide) (by rfl) (pa_cons (pv 0) (pa_cons (pv 6) (pa_cons (pv 5) pa_nil)))) (pg_tup (by rfl) (pgs_cons (pg_name (i := 8) sc_read_calls.nd rfl (.inl rfl)) (pgs_cons (pg_name (i := 2) sc_read_calls.nd rfl (.inl rfl)) pgs_nil)))) (pss_one (ps_expr (pe_bm PySem.F.plainAttrs_list PySem.F.slot_list_append PySem.F.type_list_append mt_append (pv 1) (pa_cons (pe_tup (pa_cons (pv 3) (pa_cons (pv 7) (pa_cons (pv 8) pa_nil)))) pa_nil)))))))))) (pss_one (ps_ret (pv 1)))))), ?_⟩
  refine s_new fun d hd => s_set y_c fun u1 H1 s1 p1 => s_seq ?_
  cases p1
  have s0 : Same H (upd H d (.lst [])) := Same.new hd
  refine s_while (fun m σ' H' => ∃ (pj j fj : Nat) (z3 z4 z5 z6 z7 z8 : Option V) (vs : List V), σ' = [some cv, some (.ref d), some (.int (pj : Int)), z3, z4, z5, z6, z7, z8] ∧ m = l.length - pj ∧ pj ≤ l.length ∧ H' d = some (.lst vs) ∧ Each RC (cs.take j) vs (delH (nl H H') d) ∧ (∀ y ∈ vs, y ≠ .ref d) ∧ Same H H' ∧ PyFlat.calls PyLrx6.shape fj (l.drop pj) = some (cs.drop j) ∧ j ≤ pj) ⟨_, 0, 0, fu, none, none, none, none, none, none, [], rfl, rfl, Nat.zero_le _, s1 _ _ upd_same, trivial, fun y hy => absurd hy List.not_mem_nil, s0.trans s1, hcs, Nat.le_refl _⟩ ?_
  rintro m σ' H' ⟨pj, j, fj, z3, z4, z5, z6, z7, z8, vs, rfl, hm, g0, g1, g2, g3, g4, g5, g6⟩
  refine ⟨_, yt_test (y_I0 (y_val rfl) (y_lenQ (ya_cons (y_var rfl (Mono.mono g4 hq)) ya_nil))), fun h H2 s2 => ?_, fun h H2 s2 => ?_⟩
  · rw [decide_eq_true_eq] at h
    have hpj : pj < l.length := by omega
    obtain ⟨f', p, n, k, xs, t, cs', r1, r2, r3, r4, r5, r6⟩ := calls_succ hpj g5
    obtain ⟨a1, a2, a3, a4, a5, a6⟩ := shape_at r2
    obtain ⟨m1, m2⟩ := map_take_snoc r5
    have g42 := g4.trans s2
    refine s_set (y_ixQ (y_var rfl (Mono.mono g42 hq)) (y_val rfl) (atI_nat r1)) fun u3 H3 s3 p3 => ?_
    cases p3
    refine s_seq (s_asg (y_shape hS1 hS2 hS3 (y_val rfl) a1 a3) fun u4 H4 s4 ⟨b, e4, hb⟩ => ?_)
    refine ⟨b, _, e4, hb H4, rfl, _, _, rfl, _, _, rfl, rfl, ?_⟩
    dsimp only
    refine s_set (y_I0 (y_I0 (y_val rfl) y_c) (y_val rfl)) fun u5 H5 s5 p5 => ?_
    have e5 : (pj : Int) + 1 + (n : Int) = ((pj + 1 + n : Nat) : Int) := by omega
    rw [e5] at p5
    cases p5
    have g45 := ((g42.trans s3).trans s4).trans s5
    refine s_setO (YO.toL (yo_slQ (y_var rfl (Mono.mono g45 hq)) (yp_some (Y.toN (y_I0 (y_val rfl) y_c) (show (pj : Int) + 1 = ((pj + 1 : Nat) : Int) by omega))) (yp_some (y_val rfl))) (by rw [cut_mid l (by omega) r3])) fun u6 H6 s6 p6 o6 => s_seq ?_
    have en : pj + 1 + n - (pj + 1) = n := by omega
    rw [en] at p6
    have g46 := g45.trans s6
    have p6n : IsIs ((l.drop (pj + 1)).take n) u6 (nl H H6) := off_nl p6 (off_back g45 o6)
    refine s_asgG (ya_cons (y_var rfl (Mono.mono g46 hq)) (ya_cons (y_val rfl) (ya_cons (y_val rfl) ya_nil))) fun vs7 H7 s7 ⟨v1, w1, f1, q1, v2, w2, f2, q2, v3, w3, f3, q3, f4⟩ => ?_
    subst f1 f2 f3 f4
    cases q2
    cases q3
    have g47 := g46.trans s7
    refine ⟨l, v1, pj + 1 + n, k, xs, t, rfl, q1, hl, r3, by omega, r4, fun H8 q8 rv8 pl8 s8 t8 l8 b8 c8 d8 => ?_⟩
    refine ⟨q8, _, rfl, SqT.of t8, rfl, _, _, rfl, _, _, rfl, rfl, ?_⟩
    have s28 : Same H2 H8 := (((((s3.trans s4).trans s5).trans s6).trans s7).trans s8)
    have l8n : IsL (IsL RN) xs rv8 (nl H H8) := by
      obtain ⟨pp, vv, rfl, hpp, hvv⟩ := l8
      obtain ⟨k1, k2⟩ := nl_some hpp
      have sub : Same (nl H7 H8) (nl H H8) := fun a o ha => by
        obtain ⟨j1, j2⟩ := nl_some ha
        exact nl_at j2 fun ys ey => j1 ys (g47 _ _ ey)
      exact ⟨pp, vv, rfl, sub _ _ hpp, Each.mono sub hvv⟩
    dsimp only
    have hlen : vs.length ≤ 10000 := by
      rw [g2.length, List.length_take]
      omega
    refine s_appendN (P := IsPT [.int p, u6, rv8]) (y_val rfl) (s28 _ _ (s2 _ _ g1)) (by omega) (yo_tup (ya_cons (y_val rfl) (ya_cons (y_val rfl) (ya_cons (y_val rfl) ya_nil))) (fun vs H' ⟨v, r, a, b, v2, r2, c, d, v3, r3, e, g, i⟩ => by rw [a, c, e, i]; show 3 ≤ 1000; decide) fun vs p H' ⟨v, r, a, b, v2, r2, c, d, v3, r3, e, g, i⟩ hp => ⟨p, rfl, by rw [hp, a, b, c, d, e, g, i]⟩) fun u9 H9 s9 p9 o9 n9 h9 => ?_
    obtain ⟨q9, e9, t9⟩ := p9
    have g49 : Same H' H9 := (s2.trans s28).trans s9
    refine ⟨l.length - pl8, by omega, pl8, j + 1, f', _, _, _, _, _, _, vs ++ [u9], rfl, rfl, b8, upd_same, ?_, ?_, Same.mut (g4.trans g49) hd, ?_, by omega⟩
    · rw [m1, del_upd]
      refine Each.snoc ?_ (Each.mono (same_del2 (same_nl g49)) g2)
      rw [e9]
      have hd9 : H9 d = some (.lst vs) := h9
      have q9d : q9 ≠ d := fun e => by
        rw [e, hd9] at t9
        cases t9
      have hu6 : IsIs ((l.drop (pj + 1)).take n) u6 (delH (nl H H9) d) := by
        have hu := Mono.mono (same_nl (((s7.trans s8).trans s9))) p6n
        obtain ⟨pp, rfl, hpp⟩ := isIs_iff.mp hu
        refine isIs_mk ?_
        rw [delH_ne]
        · exact hpp
        · intro e
          exact o6 d _ (((s3.trans s4).trans s5) _ _ (s2 _ _ g1)) (by rw [e])
      have hr8 : IsL (IsL RN) xs rv8 (delH (nl H H9) d) := by
        obtain ⟨pp, vv, rfl, hpp, hvv⟩ := l8
        have sub : Same (nl H7 H8) (delH (nl H H9) d) := fun a o ha => by
          obtain ⟨j1, j2⟩ := nl_some ha
          rw [delH_ne]
          · exact nl_at (s9 _ _ j2) fun ys ey => j1 ys (g47 _ _ ey)
          · intro e
            refine j1 vs ?_
            rw [e]
            exact ((((s3.trans s4).trans s5).trans s6).trans s7) _ _ (s2 _ _ g1)
        exact ⟨pp, vv, rfl, sub _ _ hpp, Each.mono sub hvv⟩
      exact ⟨p, _, xs, q9, u6, rv8, rfl, rfl, by rw [delH_ne q9d]; exact nl_tup (g4.trans g49) t9, hu6, hr8⟩
    · intro y hy
      rcases List.mem_append.mp hy with h | h
      · exact g3 y h
      · rw [List.mem_singleton.mp h]
        exact n9
    · rw [d8, m2]
      exact r6
  · rw [decide_eq_false_iff_not] at h
    have hpj : pj = l.length := by omega
    rw [hpj, List.drop_of_length_le (Nat.le_refl _)] at g5
    have hcs0 : cs.drop j = [] := by
      cases fj <;> exact (Option.some.inj g5).symm
    have hj : cs.length ≤ j := List.drop_eq_nil_iff.mp hcs0
    rw [List.take_of_length_le hj] at g2
    refine s_ret (y_val rfl) fun u5 H5 s5 p5 => ?_
    rw [p5]
    exact q H5 (.ref d) ((g4.trans s2).trans s5) ⟨d, vs, rfl, nl_at (s5 _ _ (s2 _ _ g1)) (by rw [hd]; intro xs z; cases z), Each.mono (same_nl (s2.trans s5)) (Each.mono same_delH g2)⟩
end
end WK

/- WkR4 -/
/-! answers. -/
namespace WK
open PySem PySem.Spec PyProof.Rows L2
/-! ### what is asked of a call -/
theorem list_ok {l : List Int} (h : Lrx6Neutral.list l = true) : l.length ≤ 10 ∧ BdL 32 l := by
  unfold Lrx6Neutral.list at h
  rw [Bool.and_eq_true, decide_eq_true_eq, List.all_eq_true] at h
  refine ⟨h.2, fun x hx => ?_⟩
  have := h.1 x hx
  unfold Lrx6Neutral.whole at this
  rw [Bool.and_eq_true, decide_eq_true_eq, decide_eq_true_eq] at this
  show _ < 4294967296
  omega
theorem nats_ok {l : List Int} (h : Lrx6Neutral.naturals l = true) : l.length ≤ 10 ∧ BdL 32 l := by
  unfold Lrx6Neutral.naturals at h
  rw [Bool.and_eq_true, decide_eq_true_eq, List.all_eq_true] at h
  refine ⟨h.2, fun x hx => ?_⟩
  have := h.1 x hx
  unfold Lrx6Neutral.natural at this
  rw [Bool.and_eq_true, decide_eq_true_eq, decide_eq_true_eq] at this
  show _ < 4294967296
  omega
theorem nat_ok {n : Int} (h : Lrx6Neutral.natural n = true) : 0 ≤ n := by
  unfold Lrx6Neutral.natural at h
  rw [Bool.and_eq_true, decide_eq_true_eq] at h
  exact h.1
theorem rows_ok1 {a : List Int} (h : a.length ≤ 10 ∧ BdL 32 a) : ∀ r ∈ [a], r.length ≤ 10 ∧ BdL 32 r := fun r hr => by
  rw [List.mem_singleton.mp hr]
  exact h
theorem rows_ok2 {a b : List Int} (h : a.length ≤ 10 ∧ BdL 32 a) (k : b.length ≤ 10 ∧ BdL 32 b) : ∀ r ∈ [a, b], r.length ≤ 10 ∧ BdL 32 r := fun r hr => by
  rcases List.mem_cons.mp hr with e | hr
  · rw [e]; exact h
  · exact rows_ok1 k r hr
theorem rows_ok0 : ∀ r ∈ ([] : List (List Int)), r.length ≤ 10 ∧ BdL 32 r := fun r hr => absurd hr List.not_mem_nil
theorem arg_ok {p : Int} {xs : List Int} {rs : List (List Int)} (h : Lrx6Neutral.asked1 ((p :: xs) :: rs) = true) : ArgOk p xs rs := by
  unfold Lrx6Neutral.asked1 at h
  split at h
  case h_24 => cases h
  all_goals
    rename_i e
    simp only [List.cons.injEq] at e
    obtain ⟨⟨rfl, rfl⟩, rfl⟩ := e
    try simp only [Bool.and_eq_true] at h
    refine ⟨by decide, by decide, rfl, rfl, ?_, fun q => ?_⟩
  all_goals first
    | exact rows_ok0
    | exact rows_ok1 (list_ok h)
    | exact rows_ok1 (list_ok h.2)
    | exact rows_ok1 (nats_ok h.2.2)
    | exact rows_ok2 (list_ok h.1) (list_ok h.2)
    | exact rows_ok2 (list_ok h.2.1) (list_ok h.2.2)
    | exact fun r hr => (List.mem_cons.mp hr).elim (fun e => by rw [e]; exact list_ok h.1) fun hr => (List.mem_cons.mp hr).elim (fun e => by rw [e]; exact list_ok h.2.1) fun hr => rows_ok2 (list_ok h.2.2.1) (list_ok h.2.2.2) r hr
    | exact nat_ok h
    | exact nat_ok h.1
    | exact absurd q (by decide)
theorem asked_cons {c : List (List Int)} (h : Lrx6Neutral.asked1 c = true) : ∃ p xs rs, c = (p :: xs) :: rs := by
  unfold Lrx6Neutral.asked1 at h
  split at h
  case h_24 => cases h
  all_goals exact ⟨_, _, _, rfl⟩
theorem sim_ok {s : Lrx6.State} {m : CB.MSt} (h : CB.Sim s m) : StOk m := by
  cases s with
  | none => exact ⟨fun M e => (by rw [h.1] at e; cases e), fun c e => (by rw [h.2] at e; cases e)⟩
  | some md =>
    obtain ⟨h1, h2, h3, h4⟩ := h
    refine ⟨fun M e => ?_, fun c e => ?_⟩
    · rw [h1] at e
      cases e
      exact ⟨_, rfl, h3⟩
    · rw [h2] at e
      split at e
      · cases e
      · rename_i hne
        cases e
        rcases h4 with h4 | ⟨h5, h6, h7, h8, h9⟩
        · exact absurd h4 hne
        · obtain ⟨k1, k2, k3⟩ := h5
          refine ⟨?_, ?_, ?_, ?_, ?_, ?_, ?_⟩
          · show md.cycle.demands.map _ ≠ []
            intro z
            exact k2 (List.map_eq_nil_iff.mp z)
          · show (md.cycle.demands.map _).length ≤ 8
            rw [List.length_map]
            exact h8
          · intro d hd
            obtain ⟨x, hx, rfl⟩ := List.mem_map.mp hd
            have := k3 x hx
            have := h9 x hx
            omega
          · show 0 ≤ (md.cycle.think : Int); omega
          · show (md.cycle.think : Int) ≤ 10000; omega
          · show 1 ≤ (md.cycle.customers : Int); omega
          · show (md.cycle.customers : Int) ≤ 40; omega
end WK

/- WkR5 -/
/-! answers: the whole. -/
namespace WK
open PySem PySem.Spec PyProof.Rows L2
/-! ### through a lock -/
class Nz (P : V → Hp → Prop) : Prop where
  nz : ∀ {v : V} {H : Hp} {d : Addr} {o : Obj} {u : HO}, H d = some (.frz o u) → P v H → P v (delH H d)
theorem delH_at3 {H : Hp} {d a : Addr} {ob : Obj} {u o : HO} (hd : H d = some (.frz ob u)) (h : H a = some o) (hk : o ≠ .frz ob u) : delH H d a = some o := by
  rw [delH_ne]
  · exact h
  · intro e
    rw [e, hd] at h
    exact hk (Option.some.inj h).symm
instance (n : Int) : Nz (RN n) := ⟨fun _ h => h⟩
theorem each_nz {α : Type} {R : α → V → Hp → Prop} [i : ∀ x, Nz (R x)] {H : Hp} {d : Addr} {ob : Obj} {u : HO} (hd : H d = some (.frz ob u)) : ∀ {xs : List α} {vs : List V}, Each R xs vs H → Each R xs vs (delH H d)
  | [], [], _ => trivial
  | x :: _, _ :: _, ⟨a, b⟩ => ⟨(i x).nz hd a, each_nz hd b⟩
  | [], _ :: _, q => q
  | _ :: _, [], q => q
instance {α : Type} (R : α → V → Hp → Prop) [∀ x, Nz (R x)] (xs : List α) : Nz (IsL R xs) := ⟨fun hd ⟨p, vs, a, b, c⟩ => ⟨p, vs, a, delH_at3 hd b (by intro z; cases z), each_nz hd c⟩⟩
instance (CC : Addr) (c : CB.MC) : Nz (IsCy CC c) := ⟨fun hd ⟨a, dx, d, h1, h2, h3⟩ => ⟨a, dx, d, h1, delH_at3 hd h2 (by intro z; cases z), Nz.nz hd h3⟩⟩
instance (CP : Addr) (M : CB.MP) : Nz (IsPr CP M) := ⟨fun hd ⟨a, dx, c, r, h1, h2, h3, h4⟩ => ⟨a, dx, c, r, h1, delH_at3 hd h2 (by intro z; cases z), Nz.nz hd h3, Nz.nz hd h4⟩⟩
instance (CP : Addr) : ∀ o, Nz (IsPO CP o)
  | none => ⟨fun _ h => h⟩
  | some M => ⟨fun e h => Nz.nz (P := IsPr CP M) e h⟩
instance (CC : Addr) : ∀ o, Nz (IsCO CC o)
  | none => ⟨fun _ h => h⟩
  | some M => ⟨fun e h => Nz.nz (P := IsCy CC M) e h⟩
instance (CI CC CP : Addr) (s : CB.MSt) : Nz (IsIn CI CC CP s) := ⟨fun hd ⟨a, dx, pv, cv, h1, h2, h3, h4⟩ => ⟨a, dx, pv, cv, h1, delH_at3 hd h2 (by intro z; cases z), Nz.nz hd h3, Nz.nz hd h4⟩⟩
instance (c : List (List Int)) : Nf (RC c) := ⟨fun hd ⟨p, xs, rs, q, xv, rv, h1, h2, h3, h4, h5⟩ => ⟨p, xs, rs, q, xv, rv, h1, h2, delH_at2 hd h3 (by intro z; cases z), Nf.nf hd h4, Nf.nf hd h5⟩⟩
section
variable {σ : L2.St} {H : Hp} {te ta tb tc tl tr : TE} {K : PySem.W.Frag} {A : List V → Hp → Prop} {D : Ends}
theorem s_append2 {ta : TA} {n : Int} {d : Addr} {xs : List V} (ho : Y te σ H (IsV (.ref d))) (hd : H d = some (.lst xs)) (hl : xs.length < sizeLine) (h : YA ta σ H (AC (IsN n) AN)) (k : ∀ H1, Same H H1 → H1 d = some (.lst xs) → D.nx σ (upd H1 d (.lst (xs ++ [.int n])))) : tDrop (tBM K "list" rAppend te ta) D σ H :=
  ho H (Same.refl _) _ fun x H1 e hx => by
    cases hx
    refine ⟨.inl ⟨rfl, _, SqL.of (e _ _ hd)⟩, h H1 e _ fun vs H2 e2 ⟨v, r, a, b, c⟩ => ?_⟩
    exact ⟨d, xs, .int n, rfl, by rw [a, b, c], e2 _ _ (e _ _ hd), hl, k H2 (e.trans e2) (e2 _ _ (e _ _ hd))⟩
theorem s_extend2 {ta : TA} {d : Addr} {xs : List V} {ns : List Int} (ho : Y te σ H (IsV (.ref d))) (hd : H d = some (.lst xs)) (hl : xs.length + ns.length ≤ sizeLine) (h : YA ta σ H (AC (IsIs ns) AN)) (k : ∀ H1, Same H H1 → H1 d = some (.lst xs) → D.nx σ (upd H1 d (.lst (xs ++ ns.map V.int)))) : tDrop (tBM K "list" rExtend te ta) D σ H :=
  ho H (Same.refl _) _ fun x H1 e hx => by
    cases hx
    refine ⟨.inl ⟨rfl, _, SqL.of (e _ _ hd)⟩, h H1 e _ fun vs H2 e2 ⟨v, r, a, b, c⟩ => ?_⟩
    obtain ⟨p, e3, e4⟩ := isIs_iff.mp b
    subst e3 a c
    exact ⟨d, p, xs, _, rfl, rfl, e2 _ _ (e _ _ hd), e4, by rw [List.length_map]; exact hl, k H2 (e.trans e2) (e2 _ _ (e _ _ hd))⟩
/-- a walk over what a call gives -/
theorem s_forCall {sp : Sp} {E : XK} {ta : TA} {tb : TS} {g : TG} (h : YA ta σ H A) (k : ∀ vs H1, Same H H1 → A vs H1 → sp vs H1 (fun x H2 => ∃ (p : Addr) (ws : List V) (Pv : Nat → L2.St → Hp → Prop), x = .ref p ∧ Pv 0 σ H2 ∧ (∀ i σ' H', Pv i σ' H' → H' p = some (.lst ws)) ∧
      (∀ i x σ' H', ws[i]? = some x → Pv i σ' H' → g x σ' H' fun σ2 H3 => tb { D with nx := Pv (i + 1), ct := Pv (i + 1), bk := D.nx } σ2 H3) ∧ ∀ σ' H', Pv ws.length σ' H' → D.nx σ' H') E) (mono : ∀ vs H1 (Q Q' : VK), (∀ v H', Q v H' → Q' v H') → sp vs H1 Q E → sp vs H1 Q' E) : tFor (iList K (tCall sp [] E ta)) g tb D σ H :=
  h H (Same.refl _) _ fun vs H1 e a => by
    rw [List.append_nil]
    refine mono vs H1 _ _ (fun x H2 ⟨p, ws, Pv, h1, h2, h3, h4, h5⟩ => ?_) (k vs H1 e a)
    exact ⟨p, h1, ⟨ws, SqL.of (h3 _ _ _ h2)⟩, for_list (xs := ws) Pv h2 (fun i σ' H' _ hp => SqL.of (h3 _ _ _ hp)) (fun i x σ' H' hx hp => h4 i x σ' H' hx hp) h5⟩
end
theorem spRC_mono {K : PySem.W.Frag} {E : XK} (vs : List V) (H1 : Hp) (Q Q' : VK) (k : ∀ v H', Q v H' → Q' v H') (h : SpRC K vs H1 Q E) : SpRC K vs H1 Q' E := by
  obtain ⟨l, cv, f, cs, e1, e2, e3, e4, q⟩ := h
  exact ⟨l, cv, f, cs, e1, e2, e3, e4, fun H' v s p => k _ _ (q H' v s p)⟩
theorem told_cons (x : List Int) (l : List (List Int)) : PyFlat.told (x :: l) = ((x.length : Int) :: x) ++ PyFlat.told l := rfl
section
variable {P : Program} {w : World} {K : PySem.W.Frag} {mg : Str → Option Value} {base : Heap} {CI CC CS CP : Addr}
def SpFin (K : PySem.W.Frag) : Sp := fun vs H Q _ => ∃ (l : List Int) (cv : V) (cs : List (List (List Int))), vs = [cv] ∧ IsQ K l cv H ∧ l.length ≤ 10000 ∧ PyFlat.calls PyLrx6.shape l.length l = some cs ∧ (∀ c ∈ cs, Lrx6Neutral.asked1 c = true) ∧ (PyFlat.told (PyFlat.played Lrx6Neutral.step Lrx6Neutral.start cs)).length ≤ 10000000 ∧
  ∀ H' v, IsIs (PyFlat.told (PyFlat.played Lrx6Neutral.step Lrx6Neutral.start cs)) v H' → Q v H'
theorem spFin_len {K : PySem.W.Frag} (vs : List V) (H : Hp) (Q : VK) (E : XK) (h : SpFin K vs H Q E) : vs.length = 1 := by
  obtain ⟨l, cv, cs, e, _⟩ := h
  rw [e]
  rfl
theorem sc_answers : FnScope ["calls", "instance", "given", "number", "numbers", "rows", "answer"] ["calls"] (defScope (top 98)) := ⟨rfl, rfl, rfl, by decide +kernel, rfl, by decide +kernel, by decide +kernel⟩
theorem d_answers (T : Txt K mg CI CC CS CP) (D_Instance : Di P w K mg base 1 CI ["self"] (SpIIn CI)) (D_read_calls : Dk P w K mg base 2 "read_calls" ["calls"] (SpRC K)) (D_answer_of : Dk P w K mg base 16 "answer_of" ["instance", "number", "numbers", "rows"] (SpAns CI CC CP)) {fa : Addr} {fd : FuncData} (F : Fun K "answers" "answers" (top 98) fa fd) : FnOk P w K mg base CX0 30 fa fd ["calls"] (SpFin K) := by
  refine F.ok (N := ["calls", "instance", "given", "number", "numbers", "rows", "answer"]) sc_answers spFin_len ?_
  intro cdv A outer s H vs Q E hr ⟨l, cv, cs, e1, hq, hl, hcs, hask, htot, q⟩
  subst e1
  refine ⟨_, (pss_cons (ps_set (i := 1) sc_answers.nd rfl (.inl rfl) (D_Instance.call0 hr (by decide) (by rfl) T.g_Instance)) (pss_cons (ps_set (i := 2) sc_answers.nd rfl (.inl rfl) (pe_lst pa_nil)) (pss_cons (ps_for PassesOwn.never rfl (pi_list (D_read_calls.call hr (by decide) (by rfl) (pa_cons (pv 0) pa_nil))) (pg_tup (by rfl) (pgs_cons (pg_name (i := 3) sc_answers.nd rfl (.inl rfl)) (pgs_cons (pg_name (i := 4) sc_answers.nd rfl (.inl rfl)) (pgs_cons (pg_name (i := 5) sc_answers.nd rfl (.inl rfl)) pgs_nil)))) (pss_cons (ps_lock (ps_set (i := 6) sc_answers.nd rfl (.inl rfl) (D_answer_of.call hr (by decide) (by rfl) (pa_cons (pv 1) (pa_cons (pv 3) (pa_cons (pv 4) (pa_cons (pv 5) pa_nil))))))) (pss_cons (ps_expr (pe_bm PySem.F.plainAttrs_list PySem.F.slot_list_append PySem.F.type_list_append mt_append (pv 2) (pa_cons (pe_callB call_len_seq (by rfl) T.b_len PySem.boot_len (pa_cons (pv 6) pa_nil)) pa_nil))) (pss_one (ps_expr (pe_bm PySem.F.plainAttrs_list PySem.F.slot_list_extend PySem.F.type_list_extend mt_extend (pv 2) (pa_cons (pv 6) pa_nil))))))) (pss_one (ps_ret (pv 2)))))), ?_⟩
  refine s_setO (P := IsIn CI CC CP ⟨none, none⟩) (yo_make ya_nil fun vs H' s' av => ⟨_, by rw [av]; rfl, fun x dx hx H2 s2 h => ⟨x, dx, .non, .non, rfl, h, rfl, rfl⟩⟩) fun u1 H1 s1 p1 o1 => ?_
  have p1' := p1
  obtain ⟨a, dx, pv0, cv0, rfl, ha, _, _⟩ := p1'
  refine s_new fun d hd => s_seq ?_
  have sd : Same H1 (upd H1 d (.lst [])) := Same.new hd
  have had : a ≠ d := fun e => by
    rw [e, hd] at ha
    cases ha
  refine s_forCall (ya_cons (y_var rfl (Mono.mono (s1.trans sd) hq)) ya_nil) (fun vs3 H3 s3 ⟨v3, r3, f1, q3, f2⟩ => ?_) spRC_mono
  subst f1 f2
  have hd3 : H3 d = some (.lst []) := s3 _ _ upd_same
  have ha3 : H3 a = some (.ins CI dx [("program", pv0), ("cycle", cv0)]) := s3 _ _ (sd _ _ ha)
  refine ⟨l, v3, l.length, cs, rfl, q3, hl, hcs, fun H4 v4 s4 p4 => ?_⟩
  have ha4 : (nl H3 H4) a = some (.ins CI dx [("program", pv0), ("cycle", cv0)]) := nl_at (s4 _ _ ha3) (by rw [ha3]; intro xs z; cases z)
  have p5 : IsL RC cs v4 (delH (nl H3 H4) a) := Nf.nf ha4 p4
  obtain ⟨p, ws, rfl, hp, hE⟩ := p5
  have hnd : ∀ b o, delH (nl H3 H4) a b = some o → b ≠ a ∧ b ≠ d := fun b o hb => by
    obtain ⟨k1, k2⟩ := delH_some hb
    obtain ⟨k3, k4⟩ := nl_some k2
    exact ⟨k1, fun e => k3 [] (by rw [e]; exact hd3)⟩
  have p1d : IsIn CI CC CP ⟨none, none⟩ (.ref a) (delH H4 d) := by
    refine ⟨a, dx, .non, .non, rfl, ?_, rfl, rfl⟩
    obtain ⟨a', dx', pv', cv', e', h', hpv, hcv⟩ := p1
    cases e'
    have hpv' : pv' = .non := hpv
    have hcv' : cv' = .non := hcv
    subst hpv' hcv'
    have : H1 a = some (.ins CI dx' [("program", .non), ("cycle", .non)]) := h'
    rw [ha] at this
    cases this
    rw [delH_ne had]
    exact s4 _ _ ha3
  refine ⟨p, ws, fun k σ' H' => ∃ (z3 z4 z5 z6 : Option V) (st : Lrx6.State) (m : CB.MSt) (acc : List Int), σ' = [some cv, some (.ref a), some (.ref d), z3, z4, z5, z6] ∧ CB.Sim st m ∧ IsIn CI CC CP m (.ref a) (delH H' d) ∧ H' d = some (.lst (acc.map V.int)) ∧ PyFlat.told (PyFlat.played Lrx6Neutral.step Lrx6Neutral.start cs) = acc ++ PyFlat.told (PyFlat.played Lrx6Neutral.step st (cs.drop k)) ∧ Same (delH (nl H3 H4) a) H', rfl, ⟨none, none, none, none, none, ⟨none, none⟩, [], rfl, ⟨rfl, rfl⟩, p1d, s4 _ _ hd3, rfl, same_delH.trans nl_same⟩, fun i σ' H' ⟨z3, z4, z5, z6, st, m, acc, h1, h2, h3, h4, h5, h6⟩ => h6 _ _ hp, ?_, ?_⟩
  · rintro i x σ' H' hx ⟨z3, z4, z5, z6, st, m, acc, rfl, g1, g2, g3, g4, g5⟩
    obtain ⟨c, hc, hcx⟩ := hE.back hx
    obtain ⟨pn, xs, rs, tq, xv, rv, rfl, rfl, tt, hxv, hrv⟩ := hcx
    have hcd : cs.drop i = ((pn :: xs) :: rs) :: cs.drop (i + 1) := by
      have hi := (List.getElem?_eq_some_iff.mp hc).1
      rw [List.drop_eq_getElem_cons hi, (List.getElem?_eq_some_iff.mp hc).2]
    have hak := hask _ (List.mem_of_getElem? hc)
    obtain ⟨k1, k2⟩ := CB.call_is hak g1
    rw [hcd] at g4
    have g4' : PyFlat.told (PyFlat.played Lrx6Neutral.step Lrx6Neutral.start cs) = acc ++ ((((CB.stepM m pn xs rs).2.length : Int) :: (CB.stepM m pn xs rs).2) ++ PyFlat.told (PyFlat.played Lrx6Neutral.step (Lrx6Neutral.step st ((pn :: xs) :: rs)).1 (cs.drop (i + 1)))) := by
      rw [g4, ← k1]
      rfl
    have htl := htot
    rw [g4'] at htl
    simp only [List.length_append, List.length_cons] at htl
    refine ⟨tq, _, rfl, SqT.of (g5 _ _ tt), rfl, _, _, rfl, _, _, rfl, _, _, rfl, rfl, ?_⟩
    dsimp only [List.set]
    refine s_seq ?_
    refine ⟨d, .lst (acc.map V.int), g3, trivial, fun od => ?_⟩
    have hL : Same (delH H' d) (upd H' d (.frz od (.lst (acc.map V.int)))) := del_put same_delH
    have xL : Same (delH (nl H3 H4) a) (upd H' d (.frz od (.lst (acc.map V.int)))) := fun b o hb => by
      rw [upd_ne (hnd b o hb).2]
      exact g5 _ _ hb
    refine s_asgG (ya_cons (y_val rfl) (ya_cons (y_val rfl) (ya_cons (y_var rfl (Mono.mono xL hxv)) (ya_cons (y_var rfl (Mono.mono xL hrv)) ya_nil)))) fun vs5 H5 s5 ⟨v1, w1, f1, q1, v2, w2, f2, q2, v6, w3, f3, q4, v7, w4, f4, q5, f5⟩ => ?_
    subst f1 f2 f3 f4 f5
    cases q1
    cases q2
    have i5 : IsIn CI CC CP m (.ref a) H5 := Mono.mono (hL.trans s5) g2
    have hd5 : H5 d = some (.frz od (.lst (acc.map V.int))) := s5 _ _ upd_same
    refine ⟨m, pn, xs, rs, a, v6, v7, rfl, sim_ok g1, arg_ok hak, i5, q4, q5, fun v H6 t6 r6 w6 _ => ?_⟩
    have hd6 : H6 d = some (.frz od (.lst (acc.map V.int))) := t6 _ _ (by rw [delH_ne (fun e => had e.symm)]; exact hd5)
    have i6 : IsIn CI CC CP (CB.stepM m pn xs rs).1 (.ref a) (delH H6 d) := Nz.nz hd6 r6
    have w6' : IsIs (CB.stepM m pn xs rs).2 v (delH H6 d) := Nz.nz hd6 w6
    have x6 : Same (delH (nl H3 H4) a) (delH H6 d) := fun b o hb => by
      rw [delH_ne (hnd b o hb).2]
      exact t6 _ _ (by rw [delH_ne (hnd b o hb).1]; exact s5 _ _ (xL _ _ hb))
    refine ⟨hd6, ?_⟩
    have d7 : Same (delH H6 d) (upd H6 d (.lst (acc.map V.int))) := del_put same_delH
    dsimp only
    refine s_seq (s_append2 (y_val rfl) upd_same ?_ (ya_cons (y_len (ya_cons (y_var rfl (Mono.mono d7 w6')) ya_nil)) ya_nil) fun H8 s8 h8 => ?_)
    · rw [List.length_map]
      exact Nat.lt_of_le_of_lt (by omega : acc.length ≤ 10000000) (by decide)
    have d8 : Same (delH H6 d) (upd H8 d (.lst (acc.map V.int ++ [.int ((CB.stepM m pn xs rs).2.length : Int)]))) := del_put (d7.trans s8)
    dsimp only
    refine s_extend2 (y_val rfl) upd_same ?_ (ya_cons (y_var rfl (Mono.mono d8 w6')) ya_nil) fun H9 s9 h9 => ?_
    · rw [List.length_append, List.length_map, List.length_singleton]
      exact Nat.le_trans (by omega : acc.length + 1 + (CB.stepM m pn xs rs).2.length ≤ 10000000) (by decide)
    have d9 : Same (delH H6 d) (upd H9 d (.lst ((acc.map V.int ++ [.int ((CB.stepM m pn xs rs).2.length : Int)]) ++ (CB.stepM m pn xs rs).2.map V.int))) := del_put (d8.trans s9)
    refine ⟨_, _, _, _, (Lrx6Neutral.step st ((pn :: xs) :: rs)).1, (CB.stepM m pn xs rs).1, acc ++ (((CB.stepM m pn xs rs).2.length : Int) :: (CB.stepM m pn xs rs).2), rfl, k2, ?_, ?_, ?_, x6.trans d9⟩
    · refine Mono.mono (fun b o hb => ?_) i6
      rw [delH_ne (delH_some hb).1]
      exact d9 _ _ hb
    · rw [upd_same, List.map_append, List.map_cons, List.append_assoc]
      rfl
    · rw [g4', List.append_assoc]
  · rintro σ' H' ⟨z3, z4, z5, z6, st, m, acc, rfl, g1, g2, g3, g4, g5⟩
    rw [hE.length, List.drop_of_length_le (Nat.le_refl _)] at g4
    have e : PyFlat.told (PyFlat.played Lrx6Neutral.step Lrx6Neutral.start cs) = acc := by
      rw [g4]
      exact List.append_nil _
    dsimp only
    refine s_ret (y_var rfl (isIs_mk g3)) fun u5 H5 s5 p5 => q H5 u5 ?_
    rw [e]
    exact p5
end
end WK

/- WkT -/
/-! All together. -/
namespace WK
open PySem PySem.Spec PyProof.Rows L2
section
variable {P : Program} {w : World} {K : PySem.W.Frag} {mg : Str → Option Value} {base : Heap} {CI CC CS CP : Addr}
theorem fin_ok (T : Txt K mg CI CC CS CP) {fa : Addr} {fd : FuncData} (F : Fun K "answers" "answers" (top 98) fa fd) : FnOk P w K mg base CX0 30 fa fd ["calls"] (SpFin K) := by
  have iI := i_Instance (P := P) (w := w) (base := base) T
  have iC := i_Cycle (P := P) (w := w) (base := base) T
  have iS := i_System (P := P) (w := w) (base := base) T
  have iP := i_Program (P := P) (w := w) (base := base) T
  have is_variables := d_is_variables (P := P) (w := w) (base := base) T
  have is_coefficient := d_is_coefficient (P := P) (w := w) (base := base) T
  have are_coefficients := d_are_coefficients (P := P) (w := w) (base := base) T is_coefficient
  have is_vector := d_is_vector (P := P) (w := w) (base := base) T
  have are_demands := d_are_demands (P := P) (w := w) (base := base) T
  have is_cycle := d_is_cycle (P := P) (w := w) (base := base) T are_demands
  have is_most := d_is_most (P := P) (w := w) (base := base) T
  have dot := d_dot (P := P) (w := w) (base := base) T
  have gcd := d_greatest_divisor (P := P) (w := w) (base := base) T
  have lowest := d_lowest T gcd
  have lowest_point := d_lowest_point T gcd
  have point_of := d_point_of (P := P) (w := w) (base := base) T
  have fractions_of := d_fractions_of T lowest
  have value_of := d_value_of T dot lowest
  have exceeds := d_exceeds T dot
  have comes_before := d_comes_before (P := P) (w := w) (base := base) T
  have first_of := d_first_of T comes_before
  have best_of := d_best_of T exceeds first_of
  have smaller := d_smaller (P := P) (w := w) (base := base) T
  have asymptotic_bounds := d_asymptotic_bounds T lowest smaller
  have balanced_bounds := d_balanced_bounds T lowest smaller
  have exact_throughputs := d_exact_throughputs T lowest
  have saturation_of := d_saturation_of T lowest
  have first_filled := d_first_filled (P := P) (w := w) (base := base) T
  have reduced := m_System_reduced (P := P) (w := w) (base := base) T
  have cleared := m_System_cleared (P := P) (w := w) (base := base) T
  have with_equation := m_System_with_equation T iS first_filled reduced cleared
  have solution := m_System_solution T lowest_point
  have keeps_to := d_keeps_to T dot
  have sign_rows := d_sign_rows (P := P) (w := w) (base := base) T
  have search := d_search T keeps_to solution with_equation
  have corners_from := d_corners_from T sign_rows search
  have corners_of := d_corners_of T iS corners_from
  have cone_of := d_cone_of T iP
  have rays_of := d_rays_of T iS cone_of with_equation corners_from
  have gains := d_gains T dot
  have improving := d_improving_rays_of T rays_of gains
  have is_improving := d_is_improving T cone_of keeps_to gains
  have dual_of := d_dual_of T iP
  have proven := d_proven_bound_of T value_of
  have status_of := d_status_of T corners_of improving
  have refusal := d_refusal (P := P) (w := w) (base := base) T
  have read_rows := d_read_rows (P := P) (w := w) (base := base) T
  have read_calls := d_read_calls T read_rows
  have O : ∀ p : Int, 1 ≤ p → p ≤ 22 → OpAt P w K mg base CI CC CP p := by
    intro p h1 h2
    have h : p = 1 ∨ p = 2 ∨ p = 3 ∨ p = 4 ∨ p = 5 ∨ p = 6 ∨ p = 7 ∨ p = 8 ∨ p = 9 ∨ p = 10 ∨ p = 11 ∨ p = 12 ∨ p = 13 ∨ p = 14 ∨ p = 15 ∨ p = 16 ∨ p = 17 ∨ p = 18 ∨ p = 19 ∨ p = 20 ∨ p = 21 ∨ p = 22 := by omega
    rcases h with rfl | rfl | rfl | rfl | rfl | rfl | rfl | rfl | rfl | rfl | rfl | rfl | rfl | rfl | rfl | rfl | rfl | rfl | rfl | rfl | rfl | rfl
    · exact ⟨"add_constraint", false, _, by decide, o_add_constraint T iP refusal is_coefficient are_coefficients, by decide, fun _ _ _ _ => rfl⟩
    · exact ⟨"remove_constraint", true, _, by decide, o_remove_constraint T iP refusal, by decide, fun _ _ _ _ => rfl⟩
    · exact ⟨"set_objective", false, _, by decide, o_set_objective T iP refusal are_coefficients, by decide, fun _ _ _ _ => rfl⟩
    · exact ⟨"set_cycle", false, _, by decide, o_set_cycle T iC refusal is_cycle, by decide, fun _ _ _ _ => rfl⟩
    · exact ⟨"status", false, _, by decide, o_status T status_of, by decide, fun _ _ _ _ => rfl⟩
    · exact ⟨"optimum", false, _, by decide, o_optimum T refusal status_of best_of corners_of value_of fractions_of, by decide, fun _ _ _ _ => rfl⟩
    · exact ⟨"multipliers", false, _, by decide, o_multipliers T refusal status_of best_of corners_of dual_of fractions_of, by decide, fun _ _ _ _ => rfl⟩
    · exact ⟨"refutation", false, _, by decide, o_refutation T refusal improving first_of dual_of fractions_of, by decide, fun _ _ _ _ => rfl⟩
    · exact ⟨"ray", false, _, by decide, o_ray T refusal status_of best_of improving fractions_of, by decide, fun _ _ _ _ => rfl⟩
    · exact ⟨"corners", false, _, by decide, o_corners T corners_of, by decide, fun _ _ _ _ => rfl⟩
    · exact ⟨"is_feasible", false, _, by decide, o_is_feasible T refusal is_vector keeps_to point_of, by decide, fun _ _ _ _ => rfl⟩
    · exact ⟨"slack", true, _, by decide, o_slack T refusal is_vector dot lowest point_of, by decide, fun _ _ _ _ => rfl⟩
    · exact ⟨"check_bound", false, _, by decide, o_check_bound T refusal dual_of is_vector keeps_to proven point_of, by decide, fun _ _ _ _ => rfl⟩
    · exact ⟨"check_refutation", false, _, by decide, o_check_refutation T refusal dual_of is_vector is_improving point_of, by decide, fun _ _ _ _ => rfl⟩
    · exact ⟨"check_ray", false, _, by decide, o_check_ray T refusal is_vector is_improving point_of, by decide, fun _ _ _ _ => rfl⟩
    · exact ⟨"check_optimum", false, _, by decide, o_check_optimum T refusal dual_of is_vector keeps_to value_of proven point_of, by decide, fun _ _ _ _ => rfl⟩
    · exact ⟨"asymptotic", false, _, by decide, o_asymptotic T refusal asymptotic_bounds, by decide, fun _ _ _ _ => rfl⟩
    · exact ⟨"balanced", false, _, by decide, o_balanced T refusal balanced_bounds, by decide, fun _ _ _ _ => rfl⟩
    · exact ⟨"exact", false, _, by decide, o_exact T refusal exact_throughputs, by decide, fun _ _ _ _ => rfl⟩
    · exact ⟨"saturation", false, _, by decide, o_saturation T refusal saturation_of, by decide, fun _ _ _ _ => rfl⟩
    · exact ⟨"exact_curve", false, _, by decide, o_exact_curve T refusal is_most exact_throughputs, by decide, fun _ _ _ _ => rfl⟩
    · exact ⟨"summary", false, _, by decide, o_summary T, by decide, fun _ _ _ _ => rfl⟩
  exact d_answers T iI read_calls (d_answer_of T refusal (o_create T iP refusal is_variables) O) F
end
end WK

/- WkU -/
/-! The request. -/
namespace WK
open PySem PySem.Spec PyProof.Rows L2
theorem map_whole (l : List (List (List Int))) : l.map PyLrx6.whole = l := by
  have : PyLrx6.whole = id := funext CB.whole_id
  rw [this, List.map_id]
theorem asked_ok {l : List Int} (h : PyLrx6.answers_asked l = true) : ∃ cs, PyFlat.calls PyLrx6.shape l.length l = some cs ∧ (∀ c ∈ cs, Lrx6Neutral.asked1 c = true) ∧ (PyFlat.told (PyFlat.played Lrx6Neutral.step Lrx6Neutral.start cs)).length ≤ 10000000 ∧ PyLrx6.answers l = PyFlat.told (PyFlat.played Lrx6Neutral.step Lrx6Neutral.start cs) := by
  unfold PyLrx6.answers_asked at h
  cases e : PyFlat.calls PyLrx6.shape l.length l with
  | none =>
    rw [e] at h
    cases h
  | some raw =>
    rw [e] at h
    dsimp only at h
    have ea : PyLrx6.answers l = PyFlat.told (PyFlat.played Lrx6Neutral.step Lrx6Neutral.start raw) := by
      unfold PyLrx6.answers PyLrx6.calls
      rw [e]
      dsimp only
      rw [map_whole]
    rw [map_whole, ea] at h
    simp only [Bool.and_eq_true] at h
    obtain ⟨⟨_, h2⟩, h3⟩ := h
    refine ⟨raw, rfl, fun c hc => ?_, ?_, ea⟩
    · unfold Lrx6Neutral.asked at h2
      simp only [Bool.and_eq_true] at h2
      exact List.all_eq_true.mp h2.2.2 c hc
    · unfold PyFlat.short at h3
      exact of_decide_eq_true h3
theorem fin_S : ∀ (K : PySem.W.Frag) (H : Hp) (xs : List V) (a : PySem.W.Codec.denoteAll PySem.Challenge.rw_cornerbounds_s01_answers.args),
    OnlyF H → PySem.W.Codec.withinAll PySem.Challenge.rw_cornerbounds_s01_answers.args a = true → PySem.W.Codec.app PySem.Challenge.rw_cornerbounds_s01_answers.args PySem.Challenge.rw_cornerbounds_s01_answers.asked a = true → DwAll K H xs (PySem.W.Codec.encAll PySem.Challenge.rw_cornerbounds_s01_answers.args a) →
      SpFin K xs H (fun v H' => Dw K H' v (PySem.Challenge.rw_cornerbounds_s01_answers.ret.enc (PySem.W.Codec.app PySem.Challenge.rw_cornerbounds_s01_answers.args PySem.Challenge.rw_cornerbounds_s01_answers.f a))) fun _ _ _ => False := by
  intro K H xs a hO hwi hask hx
  cases hx with
  | cons h1 h2 =>
    cases h2
    cases h1 with
    | lst hs ha =>
      have e := L2.ints_dw a.1 _ ha
      subst e
      have q : ((PySem.W.Codec.inLen 0 2250 a.1 && a.1.all (PySem.W.Codec.inInt (Int.negSucc 2147483647) (Int.ofNat 4294967295))) && true) = true := hwi
      rw [Bool.and_eq_true, Bool.and_eq_true] at q
      have hl := (PySem.W.Codec.inNat_iff.mp q.1.1).2
      obtain ⟨cs, c1, c2, c3, c4⟩ := asked_ok (l := a.1) hask
      refine ⟨a.1, _, cs, rfl, ⟨_, rfl, hs⟩, Nat.le_trans hl (by decide), c1, c2, c3, fun H' v hv => ?_⟩
      rw [← c4] at hv
      obtain ⟨p, rfl, hp⟩ := isIs_iff.mp hv
      exact .lst (L2.SqL.of hp) (L2.dw_ints _)
end WK

/- WkV -/
/-! The facts of the top, each from what the machine holds. -/
namespace WK
open PySem PySem.Spec PyProof.Rows L2
section
variable {P : Program} {w : World} {K : PySem.W.Frag} {h : Heap} {mg : Str → Option Value}

theorem mk_is_variables {f : Addr} {od an : Option Addr} {sl : Array (Option Value)} {oc kV dc pm cd ct : Value} (X : K.In h) (G : h.Ns mainGlobals mg) (a : PySem.W.nsIn K mainGlobals "is_variables" = some (some (.ref f))) (l : K.lookup f = some ⟨oc, od, .func (PySem.W.fnOf "is_variables" "is_variables" (defArgs (top 11)) (defBody (top 11)) (defScope (top 11)) .none kV dc pm an cd ct), sl⟩) (c : PySem.W.codeIn K cd "is_variables" = true) (k : PySem.W.keepIn K (.ref f) = true) : DefAt K mg "is_variables" (top 11) ["number"] := ⟨_, _, PySem.W.mg_of X G a, fun_mk l c k, (fun_mk l c k).binds (ps := ["number"]) fun _ _ _ _ _ _ us hl => match us, hl with | [_], _ => rfl⟩
theorem mk_is_coefficient {f : Addr} {od an : Option Addr} {sl : Array (Option Value)} {oc kV dc pm cd ct : Value} (X : K.In h) (G : h.Ns mainGlobals mg) (a : PySem.W.nsIn K mainGlobals "is_coefficient" = some (some (.ref f))) (l : K.lookup f = some ⟨oc, od, .func (PySem.W.fnOf "is_coefficient" "is_coefficient" (defArgs (top 12)) (defBody (top 12)) (defScope (top 12)) .none kV dc pm an cd ct), sl⟩) (c : PySem.W.codeIn K cd "is_coefficient" = true) (k : PySem.W.keepIn K (.ref f) = true) : DefAt K mg "is_coefficient" (top 12) ["number"] := ⟨_, _, PySem.W.mg_of X G a, fun_mk l c k, (fun_mk l c k).binds (ps := ["number"]) fun _ _ _ _ _ _ us hl => match us, hl with | [_], _ => rfl⟩
theorem mk_are_coefficients {f : Addr} {od an : Option Addr} {sl : Array (Option Value)} {oc kV dc pm cd ct : Value} (X : K.In h) (G : h.Ns mainGlobals mg) (a : PySem.W.nsIn K mainGlobals "are_coefficients" = some (some (.ref f))) (l : K.lookup f = some ⟨oc, od, .func (PySem.W.fnOf "are_coefficients" "are_coefficients" (defArgs (top 13)) (defBody (top 13)) (defScope (top 13)) .none kV dc pm an cd ct), sl⟩) (c : PySem.W.codeIn K cd "are_coefficients" = true) (k : PySem.W.keepIn K (.ref f) = true) : DefAt K mg "are_coefficients" (top 13) ["numbers", "width"] := ⟨_, _, PySem.W.mg_of X G a, fun_mk l c k, (fun_mk l c k).binds (ps := ["numbers", "width"]) fun _ _ _ _ _ _ us hl => match us, hl with | [_, _], _ => rfl⟩
theorem mk_is_vector {f : Addr} {od an : Option Addr} {sl : Array (Option Value)} {oc kV dc pm cd ct : Value} (X : K.In h) (G : h.Ns mainGlobals mg) (a : PySem.W.nsIn K mainGlobals "is_vector" = some (some (.ref f))) (l : K.lookup f = some ⟨oc, od, .func (PySem.W.fnOf "is_vector" "is_vector" (defArgs (top 14)) (defBody (top 14)) (defScope (top 14)) .none kV dc pm an cd ct), sl⟩) (c : PySem.W.codeIn K cd "is_vector" = true) (k : PySem.W.keepIn K (.ref f) = true) : DefAt K mg "is_vector" (top 14) ["nums", "dens", "width"] := ⟨_, _, PySem.W.mg_of X G a, fun_mk l c k, (fun_mk l c k).binds (ps := ["nums", "dens", "width"]) fun _ _ _ _ _ _ us hl => match us, hl with | [_, _, _], _ => rfl⟩
theorem mk_are_demands {f : Addr} {od an : Option Addr} {sl : Array (Option Value)} {oc kV dc pm cd ct : Value} (X : K.In h) (G : h.Ns mainGlobals mg) (a : PySem.W.nsIn K mainGlobals "are_demands" = some (some (.ref f))) (l : K.lookup f = some ⟨oc, od, .func (PySem.W.fnOf "are_demands" "are_demands" (defArgs (top 15)) (defBody (top 15)) (defScope (top 15)) .none kV dc pm an cd ct), sl⟩) (c : PySem.W.codeIn K cd "are_demands" = true) (k : PySem.W.keepIn K (.ref f) = true) : DefAt K mg "are_demands" (top 15) ["numbers"] := ⟨_, _, PySem.W.mg_of X G a, fun_mk l c k, (fun_mk l c k).binds (ps := ["numbers"]) fun _ _ _ _ _ _ us hl => match us, hl with | [_], _ => rfl⟩
theorem mk_is_cycle {f : Addr} {od an : Option Addr} {sl : Array (Option Value)} {oc kV dc pm cd ct : Value} (X : K.In h) (G : h.Ns mainGlobals mg) (a : PySem.W.nsIn K mainGlobals "is_cycle" = some (some (.ref f))) (l : K.lookup f = some ⟨oc, od, .func (PySem.W.fnOf "is_cycle" "is_cycle" (defArgs (top 16)) (defBody (top 16)) (defScope (top 16)) .none kV dc pm an cd ct), sl⟩) (c : PySem.W.codeIn K cd "is_cycle" = true) (k : PySem.W.keepIn K (.ref f) = true) : DefAt K mg "is_cycle" (top 16) ["think", "customers", "demands"] := ⟨_, _, PySem.W.mg_of X G a, fun_mk l c k, (fun_mk l c k).binds (ps := ["think", "customers", "demands"]) fun _ _ _ _ _ _ us hl => match us, hl with | [_, _, _], _ => rfl⟩
theorem mk_is_most {f : Addr} {od an : Option Addr} {sl : Array (Option Value)} {oc kV dc pm cd ct : Value} (X : K.In h) (G : h.Ns mainGlobals mg) (a : PySem.W.nsIn K mainGlobals "is_most" = some (some (.ref f))) (l : K.lookup f = some ⟨oc, od, .func (PySem.W.fnOf "is_most" "is_most" (defArgs (top 17)) (defBody (top 17)) (defScope (top 17)) .none kV dc pm an cd ct), sl⟩) (c : PySem.W.codeIn K cd "is_most" = true) (k : PySem.W.keepIn K (.ref f) = true) : DefAt K mg "is_most" (top 17) ["number"] := ⟨_, _, PySem.W.mg_of X G a, fun_mk l c k, (fun_mk l c k).binds (ps := ["number"]) fun _ _ _ _ _ _ us hl => match us, hl with | [_], _ => rfl⟩
theorem mk_dot {f : Addr} {od an : Option Addr} {sl : Array (Option Value)} {oc kV dc pm cd ct : Value} (X : K.In h) (G : h.Ns mainGlobals mg) (a : PySem.W.nsIn K mainGlobals "dot" = some (some (.ref f))) (l : K.lookup f = some ⟨oc, od, .func (PySem.W.fnOf "dot" "dot" (defArgs (top 19)) (defBody (top 19)) (defScope (top 19)) .none kV dc pm an cd ct), sl⟩) (c : PySem.W.codeIn K cd "dot" = true) (k : PySem.W.keepIn K (.ref f) = true) : DefAt K mg "dot" (top 19) ["row", "point"] := ⟨_, _, PySem.W.mg_of X G a, fun_mk l c k, (fun_mk l c k).binds (ps := ["row", "point"]) fun _ _ _ _ _ _ us hl => match us, hl with | [_, _], _ => rfl⟩
theorem mk_greatest_divisor {f : Addr} {od an : Option Addr} {sl : Array (Option Value)} {oc kV dc pm cd ct : Value} (X : K.In h) (G : h.Ns mainGlobals mg) (a : PySem.W.nsIn K mainGlobals "greatest_divisor" = some (some (.ref f))) (l : K.lookup f = some ⟨oc, od, .func (PySem.W.fnOf "greatest_divisor" "greatest_divisor" (defArgs (top 20)) (defBody (top 20)) (defScope (top 20)) .none kV dc pm an cd ct), sl⟩) (c : PySem.W.codeIn K cd "greatest_divisor" = true) (k : PySem.W.keepIn K (.ref f) = true) : DefAt K mg "greatest_divisor" (top 20) ["first", "second"] := ⟨_, _, PySem.W.mg_of X G a, fun_mk l c k, (fun_mk l c k).binds (ps := ["first", "second"]) fun _ _ _ _ _ _ us hl => match us, hl with | [_, _], _ => rfl⟩
theorem mk_lowest {f : Addr} {od an : Option Addr} {sl : Array (Option Value)} {oc kV dc pm cd ct : Value} (X : K.In h) (G : h.Ns mainGlobals mg) (a : PySem.W.nsIn K mainGlobals "lowest" = some (some (.ref f))) (l : K.lookup f = some ⟨oc, od, .func (PySem.W.fnOf "lowest" "lowest" (defArgs (top 21)) (defBody (top 21)) (defScope (top 21)) .none kV dc pm an cd ct), sl⟩) (c : PySem.W.codeIn K cd "lowest" = true) (k : PySem.W.keepIn K (.ref f) = true) : DefAt K mg "lowest" (top 21) ["numerator", "denominator"] := ⟨_, _, PySem.W.mg_of X G a, fun_mk l c k, (fun_mk l c k).binds (ps := ["numerator", "denominator"]) fun _ _ _ _ _ _ us hl => match us, hl with | [_, _], _ => rfl⟩
theorem mk_lowest_point {f : Addr} {od an : Option Addr} {sl : Array (Option Value)} {oc kV dc pm cd ct : Value} (X : K.In h) (G : h.Ns mainGlobals mg) (a : PySem.W.nsIn K mainGlobals "lowest_point" = some (some (.ref f))) (l : K.lookup f = some ⟨oc, od, .func (PySem.W.fnOf "lowest_point" "lowest_point" (defArgs (top 22)) (defBody (top 22)) (defScope (top 22)) .none kV dc pm an cd ct), sl⟩) (c : PySem.W.codeIn K cd "lowest_point" = true) (k : PySem.W.keepIn K (.ref f) = true) : DefAt K mg "lowest_point" (top 22) ["numbers"] := ⟨_, _, PySem.W.mg_of X G a, fun_mk l c k, (fun_mk l c k).binds (ps := ["numbers"]) fun _ _ _ _ _ _ us hl => match us, hl with | [_], _ => rfl⟩
theorem mk_point_of {f : Addr} {od an : Option Addr} {sl : Array (Option Value)} {oc kV dc pm cd ct : Value} (X : K.In h) (G : h.Ns mainGlobals mg) (a : PySem.W.nsIn K mainGlobals "point_of" = some (some (.ref f))) (l : K.lookup f = some ⟨oc, od, .func (PySem.W.fnOf "point_of" "point_of" (defArgs (top 23)) (defBody (top 23)) (defScope (top 23)) .none kV dc pm an cd ct), sl⟩) (c : PySem.W.codeIn K cd "point_of" = true) (k : PySem.W.keepIn K (.ref f) = true) : DefAt K mg "point_of" (top 23) ["nums", "dens"] := ⟨_, _, PySem.W.mg_of X G a, fun_mk l c k, (fun_mk l c k).binds (ps := ["nums", "dens"]) fun _ _ _ _ _ _ us hl => match us, hl with | [_, _], _ => rfl⟩
theorem mk_fractions_of {f : Addr} {od an : Option Addr} {sl : Array (Option Value)} {oc kV dc pm cd ct : Value} (X : K.In h) (G : h.Ns mainGlobals mg) (a : PySem.W.nsIn K mainGlobals "fractions_of" = some (some (.ref f))) (l : K.lookup f = some ⟨oc, od, .func (PySem.W.fnOf "fractions_of" "fractions_of" (defArgs (top 24)) (defBody (top 24)) (defScope (top 24)) .none kV dc pm an cd ct), sl⟩) (c : PySem.W.codeIn K cd "fractions_of" = true) (k : PySem.W.keepIn K (.ref f) = true) : DefAt K mg "fractions_of" (top 24) ["point"] := ⟨_, _, PySem.W.mg_of X G a, fun_mk l c k, (fun_mk l c k).binds (ps := ["point"]) fun _ _ _ _ _ _ us hl => match us, hl with | [_], _ => rfl⟩
theorem mk_value_of {f : Addr} {od an : Option Addr} {sl : Array (Option Value)} {oc kV dc pm cd ct : Value} (X : K.In h) (G : h.Ns mainGlobals mg) (a : PySem.W.nsIn K mainGlobals "value_of" = some (some (.ref f))) (l : K.lookup f = some ⟨oc, od, .func (PySem.W.fnOf "value_of" "value_of" (defArgs (top 25)) (defBody (top 25)) (defScope (top 25)) .none kV dc pm an cd ct), sl⟩) (c : PySem.W.codeIn K cd "value_of" = true) (k : PySem.W.keepIn K (.ref f) = true) : DefAt K mg "value_of" (top 25) ["goal", "point"] := ⟨_, _, PySem.W.mg_of X G a, fun_mk l c k, (fun_mk l c k).binds (ps := ["goal", "point"]) fun _ _ _ _ _ _ us hl => match us, hl with | [_, _], _ => rfl⟩
theorem mk_exceeds {f : Addr} {od an : Option Addr} {sl : Array (Option Value)} {oc kV dc pm cd ct : Value} (X : K.In h) (G : h.Ns mainGlobals mg) (a : PySem.W.nsIn K mainGlobals "exceeds" = some (some (.ref f))) (l : K.lookup f = some ⟨oc, od, .func (PySem.W.fnOf "exceeds" "exceeds" (defArgs (top 26)) (defBody (top 26)) (defScope (top 26)) .none kV dc pm an cd ct), sl⟩) (c : PySem.W.codeIn K cd "exceeds" = true) (k : PySem.W.keepIn K (.ref f) = true) : DefAt K mg "exceeds" (top 26) ["point", "other", "goal"] := ⟨_, _, PySem.W.mg_of X G a, fun_mk l c k, (fun_mk l c k).binds (ps := ["point", "other", "goal"]) fun _ _ _ _ _ _ us hl => match us, hl with | [_, _, _], _ => rfl⟩
theorem mk_comes_before {f : Addr} {od an : Option Addr} {sl : Array (Option Value)} {oc kV dc pm cd ct : Value} (X : K.In h) (G : h.Ns mainGlobals mg) (a : PySem.W.nsIn K mainGlobals "comes_before" = some (some (.ref f))) (l : K.lookup f = some ⟨oc, od, .func (PySem.W.fnOf "comes_before" "comes_before" (defArgs (top 27)) (defBody (top 27)) (defScope (top 27)) .none kV dc pm an cd ct), sl⟩) (c : PySem.W.codeIn K cd "comes_before" = true) (k : PySem.W.keepIn K (.ref f) = true) : DefAt K mg "comes_before" (top 27) ["point", "other"] := ⟨_, _, PySem.W.mg_of X G a, fun_mk l c k, (fun_mk l c k).binds (ps := ["point", "other"]) fun _ _ _ _ _ _ us hl => match us, hl with | [_, _], _ => rfl⟩
theorem mk_first_of {f : Addr} {od an : Option Addr} {sl : Array (Option Value)} {oc kV dc pm cd ct : Value} (X : K.In h) (G : h.Ns mainGlobals mg) (a : PySem.W.nsIn K mainGlobals "first_of" = some (some (.ref f))) (l : K.lookup f = some ⟨oc, od, .func (PySem.W.fnOf "first_of" "first_of" (defArgs (top 28)) (defBody (top 28)) (defScope (top 28)) .none kV dc pm an cd ct), sl⟩) (c : PySem.W.codeIn K cd "first_of" = true) (k : PySem.W.keepIn K (.ref f) = true) : DefAt K mg "first_of" (top 28) ["points"] := ⟨_, _, PySem.W.mg_of X G a, fun_mk l c k, (fun_mk l c k).binds (ps := ["points"]) fun _ _ _ _ _ _ us hl => match us, hl with | [_], _ => rfl⟩
theorem mk_best_of {f : Addr} {od an : Option Addr} {sl : Array (Option Value)} {oc kV dc pm cd ct : Value} (X : K.In h) (G : h.Ns mainGlobals mg) (a : PySem.W.nsIn K mainGlobals "best_of" = some (some (.ref f))) (l : K.lookup f = some ⟨oc, od, .func (PySem.W.fnOf "best_of" "best_of" (defArgs (top 29)) (defBody (top 29)) (defScope (top 29)) .none kV dc pm an cd ct), sl⟩) (c : PySem.W.codeIn K cd "best_of" = true) (k : PySem.W.keepIn K (.ref f) = true) : DefAt K mg "best_of" (top 29) ["points", "goal"] := ⟨_, _, PySem.W.mg_of X G a, fun_mk l c k, (fun_mk l c k).binds (ps := ["points", "goal"]) fun _ _ _ _ _ _ us hl => match us, hl with | [_, _], _ => rfl⟩
theorem mk_smaller {f : Addr} {od an : Option Addr} {sl : Array (Option Value)} {oc kV dc pm cd ct : Value} (X : K.In h) (G : h.Ns mainGlobals mg) (a : PySem.W.nsIn K mainGlobals "smaller" = some (some (.ref f))) (l : K.lookup f = some ⟨oc, od, .func (PySem.W.fnOf "smaller" "smaller" (defArgs (top 32)) (defBody (top 32)) (defScope (top 32)) .none kV dc pm an cd ct), sl⟩) (c : PySem.W.codeIn K cd "smaller" = true) (k : PySem.W.keepIn K (.ref f) = true) : DefAt K mg "smaller" (top 32) ["first", "second"] := ⟨_, _, PySem.W.mg_of X G a, fun_mk l c k, (fun_mk l c k).binds (ps := ["first", "second"]) fun _ _ _ _ _ _ us hl => match us, hl with | [_, _], _ => rfl⟩
theorem mk_asymptotic_bounds {f : Addr} {od an : Option Addr} {sl : Array (Option Value)} {oc kV dc pm cd ct : Value} (X : K.In h) (G : h.Ns mainGlobals mg) (a : PySem.W.nsIn K mainGlobals "asymptotic_bounds" = some (some (.ref f))) (l : K.lookup f = some ⟨oc, od, .func (PySem.W.fnOf "asymptotic_bounds" "asymptotic_bounds" (defArgs (top 33)) (defBody (top 33)) (defScope (top 33)) .none kV dc pm an cd ct), sl⟩) (c : PySem.W.codeIn K cd "asymptotic_bounds" = true) (k : PySem.W.keepIn K (.ref f) = true) : DefAt K mg "asymptotic_bounds" (top 33) ["cycle"] := ⟨_, _, PySem.W.mg_of X G a, fun_mk l c k, (fun_mk l c k).binds (ps := ["cycle"]) fun _ _ _ _ _ _ us hl => match us, hl with | [_], _ => rfl⟩
theorem mk_balanced_bounds {f : Addr} {od an : Option Addr} {sl : Array (Option Value)} {oc kV dc pm cd ct : Value} (X : K.In h) (G : h.Ns mainGlobals mg) (a : PySem.W.nsIn K mainGlobals "balanced_bounds" = some (some (.ref f))) (l : K.lookup f = some ⟨oc, od, .func (PySem.W.fnOf "balanced_bounds" "balanced_bounds" (defArgs (top 34)) (defBody (top 34)) (defScope (top 34)) .none kV dc pm an cd ct), sl⟩) (c : PySem.W.codeIn K cd "balanced_bounds" = true) (k : PySem.W.keepIn K (.ref f) = true) : DefAt K mg "balanced_bounds" (top 34) ["cycle"] := ⟨_, _, PySem.W.mg_of X G a, fun_mk l c k, (fun_mk l c k).binds (ps := ["cycle"]) fun _ _ _ _ _ _ us hl => match us, hl with | [_], _ => rfl⟩
theorem mk_exact_throughputs {f : Addr} {od an : Option Addr} {sl : Array (Option Value)} {oc kV dc pm cd ct : Value} (X : K.In h) (G : h.Ns mainGlobals mg) (a : PySem.W.nsIn K mainGlobals "exact_throughputs" = some (some (.ref f))) (l : K.lookup f = some ⟨oc, od, .func (PySem.W.fnOf "exact_throughputs" "exact_throughputs" (defArgs (top 35)) (defBody (top 35)) (defScope (top 35)) .none kV dc pm an cd ct), sl⟩) (c : PySem.W.codeIn K cd "exact_throughputs" = true) (k : PySem.W.keepIn K (.ref f) = true) : DefAt K mg "exact_throughputs" (top 35) ["cycle", "most"] := ⟨_, _, PySem.W.mg_of X G a, fun_mk l c k, (fun_mk l c k).binds (ps := ["cycle", "most"]) fun _ _ _ _ _ _ us hl => match us, hl with | [_, _], _ => rfl⟩
theorem mk_saturation_of {f : Addr} {od an : Option Addr} {sl : Array (Option Value)} {oc kV dc pm cd ct : Value} (X : K.In h) (G : h.Ns mainGlobals mg) (a : PySem.W.nsIn K mainGlobals "saturation_of" = some (some (.ref f))) (l : K.lookup f = some ⟨oc, od, .func (PySem.W.fnOf "saturation_of" "saturation_of" (defArgs (top 36)) (defBody (top 36)) (defScope (top 36)) .none kV dc pm an cd ct), sl⟩) (c : PySem.W.codeIn K cd "saturation_of" = true) (k : PySem.W.keepIn K (.ref f) = true) : DefAt K mg "saturation_of" (top 36) ["cycle"] := ⟨_, _, PySem.W.mg_of X G a, fun_mk l c k, (fun_mk l c k).binds (ps := ["cycle"]) fun _ _ _ _ _ _ us hl => match us, hl with | [_], _ => rfl⟩
theorem mk_first_filled {f : Addr} {od an : Option Addr} {sl : Array (Option Value)} {oc kV dc pm cd ct : Value} (X : K.In h) (G : h.Ns mainGlobals mg) (a : PySem.W.nsIn K mainGlobals "first_filled" = some (some (.ref f))) (l : K.lookup f = some ⟨oc, od, .func (PySem.W.fnOf "first_filled" "first_filled" (defArgs (top 38)) (defBody (top 38)) (defScope (top 38)) .none kV dc pm an cd ct), sl⟩) (c : PySem.W.codeIn K cd "first_filled" = true) (k : PySem.W.keepIn K (.ref f) = true) : DefAt K mg "first_filled" (top 38) ["numbers"] := ⟨_, _, PySem.W.mg_of X G a, fun_mk l c k, (fun_mk l c k).binds (ps := ["numbers"]) fun _ _ _ _ _ _ us hl => match us, hl with | [_], _ => rfl⟩
theorem mk_keeps_to {f : Addr} {od an : Option Addr} {sl : Array (Option Value)} {oc kV dc pm cd ct : Value} (X : K.In h) (G : h.Ns mainGlobals mg) (a : PySem.W.nsIn K mainGlobals "keeps_to" = some (some (.ref f))) (l : K.lookup f = some ⟨oc, od, .func (PySem.W.fnOf "keeps_to" "keeps_to" (defArgs (top 45)) (defBody (top 45)) (defScope (top 45)) .none kV dc pm an cd ct), sl⟩) (c : PySem.W.codeIn K cd "keeps_to" = true) (k : PySem.W.keepIn K (.ref f) = true) : DefAt K mg "keeps_to" (top 45) ["program", "point"] := ⟨_, _, PySem.W.mg_of X G a, fun_mk l c k, (fun_mk l c k).binds (ps := ["program", "point"]) fun _ _ _ _ _ _ us hl => match us, hl with | [_, _], _ => rfl⟩
theorem mk_sign_rows {f : Addr} {od an : Option Addr} {sl : Array (Option Value)} {oc kV dc pm cd ct : Value} (X : K.In h) (G : h.Ns mainGlobals mg) (a : PySem.W.nsIn K mainGlobals "sign_rows" = some (some (.ref f))) (l : K.lookup f = some ⟨oc, od, .func (PySem.W.fnOf "sign_rows" "sign_rows" (defArgs (top 46)) (defBody (top 46)) (defScope (top 46)) .none kV dc pm an cd ct), sl⟩) (c : PySem.W.codeIn K cd "sign_rows" = true) (k : PySem.W.keepIn K (.ref f) = true) : DefAt K mg "sign_rows" (top 46) ["width"] := ⟨_, _, PySem.W.mg_of X G a, fun_mk l c k, (fun_mk l c k).binds (ps := ["width"]) fun _ _ _ _ _ _ us hl => match us, hl with | [_], _ => rfl⟩
theorem mk_search_corners {f : Addr} {od an : Option Addr} {sl : Array (Option Value)} {oc kV dc pm cd ct : Value} (X : K.In h) (G : h.Ns mainGlobals mg) (a : PySem.W.nsIn K mainGlobals "search_corners" = some (some (.ref f))) (l : K.lookup f = some ⟨oc, od, .func (PySem.W.fnOf "search_corners" "search_corners" (defArgs (top 47)) (defBody (top 47)) (defScope (top 47)) .none kV dc pm an cd ct), sl⟩) (c : PySem.W.codeIn K cd "search_corners" = true) (k : PySem.W.keepIn K (.ref f) = true) : DefAt K mg "search_corners" (top 47) ["program", "system", "conditions", "found"] := ⟨_, _, PySem.W.mg_of X G a, fun_mk l c k, (fun_mk l c k).binds (ps := ["program", "system", "conditions", "found"]) fun _ _ _ _ _ _ us hl => match us, hl with | [_, _, _, _], _ => rfl⟩
theorem mk_corners_from {f : Addr} {od an : Option Addr} {sl : Array (Option Value)} {oc kV dc pm cd ct : Value} (X : K.In h) (G : h.Ns mainGlobals mg) (a : PySem.W.nsIn K mainGlobals "corners_from" = some (some (.ref f))) (l : K.lookup f = some ⟨oc, od, .func (PySem.W.fnOf "corners_from" "corners_from" (defArgs (top 48)) (defBody (top 48)) (defScope (top 48)) .none kV dc pm an cd ct), sl⟩) (c : PySem.W.codeIn K cd "corners_from" = true) (k : PySem.W.keepIn K (.ref f) = true) : DefAt K mg "corners_from" (top 48) ["program", "system"] := ⟨_, _, PySem.W.mg_of X G a, fun_mk l c k, (fun_mk l c k).binds (ps := ["program", "system"]) fun _ _ _ _ _ _ us hl => match us, hl with | [_, _], _ => rfl⟩
theorem mk_corners_of {f : Addr} {od an : Option Addr} {sl : Array (Option Value)} {oc kV dc pm cd ct : Value} (X : K.In h) (G : h.Ns mainGlobals mg) (a : PySem.W.nsIn K mainGlobals "corners_of" = some (some (.ref f))) (l : K.lookup f = some ⟨oc, od, .func (PySem.W.fnOf "corners_of" "corners_of" (defArgs (top 49)) (defBody (top 49)) (defScope (top 49)) .none kV dc pm an cd ct), sl⟩) (c : PySem.W.codeIn K cd "corners_of" = true) (k : PySem.W.keepIn K (.ref f) = true) : DefAt K mg "corners_of" (top 49) ["program"] := ⟨_, _, PySem.W.mg_of X G a, fun_mk l c k, (fun_mk l c k).binds (ps := ["program"]) fun _ _ _ _ _ _ us hl => match us, hl with | [_], _ => rfl⟩
theorem mk_cone_of {f : Addr} {od an : Option Addr} {sl : Array (Option Value)} {oc kV dc pm cd ct : Value} (X : K.In h) (G : h.Ns mainGlobals mg) (a : PySem.W.nsIn K mainGlobals "cone_of" = some (some (.ref f))) (l : K.lookup f = some ⟨oc, od, .func (PySem.W.fnOf "cone_of" "cone_of" (defArgs (top 50)) (defBody (top 50)) (defScope (top 50)) .none kV dc pm an cd ct), sl⟩) (c : PySem.W.codeIn K cd "cone_of" = true) (k : PySem.W.keepIn K (.ref f) = true) : DefAt K mg "cone_of" (top 50) ["program"] := ⟨_, _, PySem.W.mg_of X G a, fun_mk l c k, (fun_mk l c k).binds (ps := ["program"]) fun _ _ _ _ _ _ us hl => match us, hl with | [_], _ => rfl⟩
theorem mk_rays_of {f : Addr} {od an : Option Addr} {sl : Array (Option Value)} {oc kV dc pm cd ct : Value} (X : K.In h) (G : h.Ns mainGlobals mg) (a : PySem.W.nsIn K mainGlobals "rays_of" = some (some (.ref f))) (l : K.lookup f = some ⟨oc, od, .func (PySem.W.fnOf "rays_of" "rays_of" (defArgs (top 51)) (defBody (top 51)) (defScope (top 51)) .none kV dc pm an cd ct), sl⟩) (c : PySem.W.codeIn K cd "rays_of" = true) (k : PySem.W.keepIn K (.ref f) = true) : DefAt K mg "rays_of" (top 51) ["program"] := ⟨_, _, PySem.W.mg_of X G a, fun_mk l c k, (fun_mk l c k).binds (ps := ["program"]) fun _ _ _ _ _ _ us hl => match us, hl with | [_], _ => rfl⟩
theorem mk_gains {f : Addr} {od an : Option Addr} {sl : Array (Option Value)} {oc kV dc pm cd ct : Value} (X : K.In h) (G : h.Ns mainGlobals mg) (a : PySem.W.nsIn K mainGlobals "gains" = some (some (.ref f))) (l : K.lookup f = some ⟨oc, od, .func (PySem.W.fnOf "gains" "gains" (defArgs (top 52)) (defBody (top 52)) (defScope (top 52)) .none kV dc pm an cd ct), sl⟩) (c : PySem.W.codeIn K cd "gains" = true) (k : PySem.W.keepIn K (.ref f) = true) : DefAt K mg "gains" (top 52) ["program", "point"] := ⟨_, _, PySem.W.mg_of X G a, fun_mk l c k, (fun_mk l c k).binds (ps := ["program", "point"]) fun _ _ _ _ _ _ us hl => match us, hl with | [_, _], _ => rfl⟩
theorem mk_improving_rays_of {f : Addr} {od an : Option Addr} {sl : Array (Option Value)} {oc kV dc pm cd ct : Value} (X : K.In h) (G : h.Ns mainGlobals mg) (a : PySem.W.nsIn K mainGlobals "improving_rays_of" = some (some (.ref f))) (l : K.lookup f = some ⟨oc, od, .func (PySem.W.fnOf "improving_rays_of" "improving_rays_of" (defArgs (top 53)) (defBody (top 53)) (defScope (top 53)) .none kV dc pm an cd ct), sl⟩) (c : PySem.W.codeIn K cd "improving_rays_of" = true) (k : PySem.W.keepIn K (.ref f) = true) : DefAt K mg "improving_rays_of" (top 53) ["program"] := ⟨_, _, PySem.W.mg_of X G a, fun_mk l c k, (fun_mk l c k).binds (ps := ["program"]) fun _ _ _ _ _ _ us hl => match us, hl with | [_], _ => rfl⟩
theorem mk_is_improving {f : Addr} {od an : Option Addr} {sl : Array (Option Value)} {oc kV dc pm cd ct : Value} (X : K.In h) (G : h.Ns mainGlobals mg) (a : PySem.W.nsIn K mainGlobals "is_improving" = some (some (.ref f))) (l : K.lookup f = some ⟨oc, od, .func (PySem.W.fnOf "is_improving" "is_improving" (defArgs (top 54)) (defBody (top 54)) (defScope (top 54)) .none kV dc pm an cd ct), sl⟩) (c : PySem.W.codeIn K cd "is_improving" = true) (k : PySem.W.keepIn K (.ref f) = true) : DefAt K mg "is_improving" (top 54) ["program", "point"] := ⟨_, _, PySem.W.mg_of X G a, fun_mk l c k, (fun_mk l c k).binds (ps := ["program", "point"]) fun _ _ _ _ _ _ us hl => match us, hl with | [_, _], _ => rfl⟩
theorem mk_dual_of {f : Addr} {od an : Option Addr} {sl : Array (Option Value)} {oc kV dc pm cd ct : Value} (X : K.In h) (G : h.Ns mainGlobals mg) (a : PySem.W.nsIn K mainGlobals "dual_of" = some (some (.ref f))) (l : K.lookup f = some ⟨oc, od, .func (PySem.W.fnOf "dual_of" "dual_of" (defArgs (top 55)) (defBody (top 55)) (defScope (top 55)) .none kV dc pm an cd ct), sl⟩) (c : PySem.W.codeIn K cd "dual_of" = true) (k : PySem.W.keepIn K (.ref f) = true) : DefAt K mg "dual_of" (top 55) ["program"] := ⟨_, _, PySem.W.mg_of X G a, fun_mk l c k, (fun_mk l c k).binds (ps := ["program"]) fun _ _ _ _ _ _ us hl => match us, hl with | [_], _ => rfl⟩
theorem mk_proven_bound_of {f : Addr} {od an : Option Addr} {sl : Array (Option Value)} {oc kV dc pm cd ct : Value} (X : K.In h) (G : h.Ns mainGlobals mg) (a : PySem.W.nsIn K mainGlobals "proven_bound_of" = some (some (.ref f))) (l : K.lookup f = some ⟨oc, od, .func (PySem.W.fnOf "proven_bound_of" "proven_bound_of" (defArgs (top 56)) (defBody (top 56)) (defScope (top 56)) .none kV dc pm an cd ct), sl⟩) (c : PySem.W.codeIn K cd "proven_bound_of" = true) (k : PySem.W.keepIn K (.ref f) = true) : DefAt K mg "proven_bound_of" (top 56) ["program", "point"] := ⟨_, _, PySem.W.mg_of X G a, fun_mk l c k, (fun_mk l c k).binds (ps := ["program", "point"]) fun _ _ _ _ _ _ us hl => match us, hl with | [_, _], _ => rfl⟩
theorem mk_status_of {f : Addr} {od an : Option Addr} {sl : Array (Option Value)} {oc kV dc pm cd ct : Value} (X : K.In h) (G : h.Ns mainGlobals mg) (a : PySem.W.nsIn K mainGlobals "status_of" = some (some (.ref f))) (l : K.lookup f = some ⟨oc, od, .func (PySem.W.fnOf "status_of" "status_of" (defArgs (top 57)) (defBody (top 57)) (defScope (top 57)) .none kV dc pm an cd ct), sl⟩) (c : PySem.W.codeIn K cd "status_of" = true) (k : PySem.W.keepIn K (.ref f) = true) : DefAt K mg "status_of" (top 57) ["program"] := ⟨_, _, PySem.W.mg_of X G a, fun_mk l c k, (fun_mk l c k).binds (ps := ["program"]) fun _ _ _ _ _ _ us hl => match us, hl with | [_], _ => rfl⟩
theorem mk_refusal {f : Addr} {od an : Option Addr} {sl : Array (Option Value)} {oc kV dc pm cd ct : Value} (X : K.In h) (G : h.Ns mainGlobals mg) (a : PySem.W.nsIn K mainGlobals "refusal" = some (some (.ref f))) (l : K.lookup f = some ⟨oc, od, .func (PySem.W.fnOf "refusal" "refusal" (defArgs (top 65)) (defBody (top 65)) (defScope (top 65)) .none kV dc pm an cd ct), sl⟩) (c : PySem.W.codeIn K cd "refusal" = true) (k : PySem.W.keepIn K (.ref f) = true) : DefAt K mg "refusal" (top 65) ["number"] := ⟨_, _, PySem.W.mg_of X G a, fun_mk l c k, (fun_mk l c k).binds (ps := ["number"]) fun _ _ _ _ _ _ us hl => match us, hl with | [_], _ => rfl⟩
theorem mk_create {f : Addr} {od an : Option Addr} {sl : Array (Option Value)} {oc kV dc pm cd ct : Value} (X : K.In h) (G : h.Ns mainGlobals mg) (a : PySem.W.nsIn K mainGlobals "create" = some (some (.ref f))) (l : K.lookup f = some ⟨oc, od, .func (PySem.W.fnOf "create" "create" (defArgs (top 68)) (defBody (top 68)) (defScope (top 68)) .none kV dc pm an cd ct), sl⟩) (c : PySem.W.codeIn K cd "create" = true) (k : PySem.W.keepIn K (.ref f) = true) : DefAt K mg "create" (top 68) ["instance", "numbers", "rows"] := ⟨_, _, PySem.W.mg_of X G a, fun_mk l c k, (fun_mk l c k).binds (ps := ["instance", "numbers", "rows"]) fun _ _ _ _ _ _ us hl => match us, hl with | [_, _, _], _ => rfl⟩
theorem mk_add_constraint {f : Addr} {od an : Option Addr} {sl : Array (Option Value)} {oc kV dc pm cd ct : Value} (X : K.In h) (G : h.Ns mainGlobals mg) (a : PySem.W.nsIn K mainGlobals "add_constraint" = some (some (.ref f))) (l : K.lookup f = some ⟨oc, od, .func (PySem.W.fnOf "add_constraint" "add_constraint" (defArgs (top 69)) (defBody (top 69)) (defScope (top 69)) .none kV dc pm an cd ct), sl⟩) (c : PySem.W.codeIn K cd "add_constraint" = true) (k : PySem.W.keepIn K (.ref f) = true) : DefAt K mg "add_constraint" (top 69) ["instance", "numbers", "rows"] := ⟨_, _, PySem.W.mg_of X G a, fun_mk l c k, (fun_mk l c k).binds (ps := ["instance", "numbers", "rows"]) fun _ _ _ _ _ _ us hl => match us, hl with | [_, _, _], _ => rfl⟩
theorem mk_remove_constraint {f : Addr} {od an : Option Addr} {sl : Array (Option Value)} {oc kV dc pm cd ct : Value} (X : K.In h) (G : h.Ns mainGlobals mg) (a : PySem.W.nsIn K mainGlobals "remove_constraint" = some (some (.ref f))) (l : K.lookup f = some ⟨oc, od, .func (PySem.W.fnOf "remove_constraint" "remove_constraint" (defArgs (top 70)) (defBody (top 70)) (defScope (top 70)) .none kV dc pm an cd ct), sl⟩) (c : PySem.W.codeIn K cd "remove_constraint" = true) (k : PySem.W.keepIn K (.ref f) = true) : DefAt K mg "remove_constraint" (top 70) ["instance", "numbers", "rows"] := ⟨_, _, PySem.W.mg_of X G a, fun_mk l c k, (fun_mk l c k).binds (ps := ["instance", "numbers", "rows"]) fun _ _ _ _ _ _ us hl => match us, hl with | [_, _, _], _ => rfl⟩
theorem mk_set_objective {f : Addr} {od an : Option Addr} {sl : Array (Option Value)} {oc kV dc pm cd ct : Value} (X : K.In h) (G : h.Ns mainGlobals mg) (a : PySem.W.nsIn K mainGlobals "set_objective" = some (some (.ref f))) (l : K.lookup f = some ⟨oc, od, .func (PySem.W.fnOf "set_objective" "set_objective" (defArgs (top 71)) (defBody (top 71)) (defScope (top 71)) .none kV dc pm an cd ct), sl⟩) (c : PySem.W.codeIn K cd "set_objective" = true) (k : PySem.W.keepIn K (.ref f) = true) : DefAt K mg "set_objective" (top 71) ["instance", "numbers", "rows"] := ⟨_, _, PySem.W.mg_of X G a, fun_mk l c k, (fun_mk l c k).binds (ps := ["instance", "numbers", "rows"]) fun _ _ _ _ _ _ us hl => match us, hl with | [_, _, _], _ => rfl⟩
theorem mk_set_cycle {f : Addr} {od an : Option Addr} {sl : Array (Option Value)} {oc kV dc pm cd ct : Value} (X : K.In h) (G : h.Ns mainGlobals mg) (a : PySem.W.nsIn K mainGlobals "set_cycle" = some (some (.ref f))) (l : K.lookup f = some ⟨oc, od, .func (PySem.W.fnOf "set_cycle" "set_cycle" (defArgs (top 72)) (defBody (top 72)) (defScope (top 72)) .none kV dc pm an cd ct), sl⟩) (c : PySem.W.codeIn K cd "set_cycle" = true) (k : PySem.W.keepIn K (.ref f) = true) : DefAt K mg "set_cycle" (top 72) ["instance", "numbers", "rows"] := ⟨_, _, PySem.W.mg_of X G a, fun_mk l c k, (fun_mk l c k).binds (ps := ["instance", "numbers", "rows"]) fun _ _ _ _ _ _ us hl => match us, hl with | [_, _, _], _ => rfl⟩
theorem mk_status {f : Addr} {od an : Option Addr} {sl : Array (Option Value)} {oc kV dc pm cd ct : Value} (X : K.In h) (G : h.Ns mainGlobals mg) (a : PySem.W.nsIn K mainGlobals "status" = some (some (.ref f))) (l : K.lookup f = some ⟨oc, od, .func (PySem.W.fnOf "status" "status" (defArgs (top 73)) (defBody (top 73)) (defScope (top 73)) .none kV dc pm an cd ct), sl⟩) (c : PySem.W.codeIn K cd "status" = true) (k : PySem.W.keepIn K (.ref f) = true) : DefAt K mg "status" (top 73) ["instance", "numbers", "rows"] := ⟨_, _, PySem.W.mg_of X G a, fun_mk l c k, (fun_mk l c k).binds (ps := ["instance", "numbers", "rows"]) fun _ _ _ _ _ _ us hl => match us, hl with | [_, _, _], _ => rfl⟩
theorem mk_optimum {f : Addr} {od an : Option Addr} {sl : Array (Option Value)} {oc kV dc pm cd ct : Value} (X : K.In h) (G : h.Ns mainGlobals mg) (a : PySem.W.nsIn K mainGlobals "optimum" = some (some (.ref f))) (l : K.lookup f = some ⟨oc, od, .func (PySem.W.fnOf "optimum" "optimum" (defArgs (top 74)) (defBody (top 74)) (defScope (top 74)) .none kV dc pm an cd ct), sl⟩) (c : PySem.W.codeIn K cd "optimum" = true) (k : PySem.W.keepIn K (.ref f) = true) : DefAt K mg "optimum" (top 74) ["instance", "numbers", "rows"] := ⟨_, _, PySem.W.mg_of X G a, fun_mk l c k, (fun_mk l c k).binds (ps := ["instance", "numbers", "rows"]) fun _ _ _ _ _ _ us hl => match us, hl with | [_, _, _], _ => rfl⟩
theorem mk_multipliers {f : Addr} {od an : Option Addr} {sl : Array (Option Value)} {oc kV dc pm cd ct : Value} (X : K.In h) (G : h.Ns mainGlobals mg) (a : PySem.W.nsIn K mainGlobals "multipliers" = some (some (.ref f))) (l : K.lookup f = some ⟨oc, od, .func (PySem.W.fnOf "multipliers" "multipliers" (defArgs (top 75)) (defBody (top 75)) (defScope (top 75)) .none kV dc pm an cd ct), sl⟩) (c : PySem.W.codeIn K cd "multipliers" = true) (k : PySem.W.keepIn K (.ref f) = true) : DefAt K mg "multipliers" (top 75) ["instance", "numbers", "rows"] := ⟨_, _, PySem.W.mg_of X G a, fun_mk l c k, (fun_mk l c k).binds (ps := ["instance", "numbers", "rows"]) fun _ _ _ _ _ _ us hl => match us, hl with | [_, _, _], _ => rfl⟩
theorem mk_refutation {f : Addr} {od an : Option Addr} {sl : Array (Option Value)} {oc kV dc pm cd ct : Value} (X : K.In h) (G : h.Ns mainGlobals mg) (a : PySem.W.nsIn K mainGlobals "refutation" = some (some (.ref f))) (l : K.lookup f = some ⟨oc, od, .func (PySem.W.fnOf "refutation" "refutation" (defArgs (top 76)) (defBody (top 76)) (defScope (top 76)) .none kV dc pm an cd ct), sl⟩) (c : PySem.W.codeIn K cd "refutation" = true) (k : PySem.W.keepIn K (.ref f) = true) : DefAt K mg "refutation" (top 76) ["instance", "numbers", "rows"] := ⟨_, _, PySem.W.mg_of X G a, fun_mk l c k, (fun_mk l c k).binds (ps := ["instance", "numbers", "rows"]) fun _ _ _ _ _ _ us hl => match us, hl with | [_, _, _], _ => rfl⟩
theorem mk_ray {f : Addr} {od an : Option Addr} {sl : Array (Option Value)} {oc kV dc pm cd ct : Value} (X : K.In h) (G : h.Ns mainGlobals mg) (a : PySem.W.nsIn K mainGlobals "ray" = some (some (.ref f))) (l : K.lookup f = some ⟨oc, od, .func (PySem.W.fnOf "ray" "ray" (defArgs (top 77)) (defBody (top 77)) (defScope (top 77)) .none kV dc pm an cd ct), sl⟩) (c : PySem.W.codeIn K cd "ray" = true) (k : PySem.W.keepIn K (.ref f) = true) : DefAt K mg "ray" (top 77) ["instance", "numbers", "rows"] := ⟨_, _, PySem.W.mg_of X G a, fun_mk l c k, (fun_mk l c k).binds (ps := ["instance", "numbers", "rows"]) fun _ _ _ _ _ _ us hl => match us, hl with | [_, _, _], _ => rfl⟩
theorem mk_corners {f : Addr} {od an : Option Addr} {sl : Array (Option Value)} {oc kV dc pm cd ct : Value} (X : K.In h) (G : h.Ns mainGlobals mg) (a : PySem.W.nsIn K mainGlobals "corners" = some (some (.ref f))) (l : K.lookup f = some ⟨oc, od, .func (PySem.W.fnOf "corners" "corners" (defArgs (top 78)) (defBody (top 78)) (defScope (top 78)) .none kV dc pm an cd ct), sl⟩) (c : PySem.W.codeIn K cd "corners" = true) (k : PySem.W.keepIn K (.ref f) = true) : DefAt K mg "corners" (top 78) ["instance", "numbers", "rows"] := ⟨_, _, PySem.W.mg_of X G a, fun_mk l c k, (fun_mk l c k).binds (ps := ["instance", "numbers", "rows"]) fun _ _ _ _ _ _ us hl => match us, hl with | [_, _, _], _ => rfl⟩
theorem mk_is_feasible {f : Addr} {od an : Option Addr} {sl : Array (Option Value)} {oc kV dc pm cd ct : Value} (X : K.In h) (G : h.Ns mainGlobals mg) (a : PySem.W.nsIn K mainGlobals "is_feasible" = some (some (.ref f))) (l : K.lookup f = some ⟨oc, od, .func (PySem.W.fnOf "is_feasible" "is_feasible" (defArgs (top 79)) (defBody (top 79)) (defScope (top 79)) .none kV dc pm an cd ct), sl⟩) (c : PySem.W.codeIn K cd "is_feasible" = true) (k : PySem.W.keepIn K (.ref f) = true) : DefAt K mg "is_feasible" (top 79) ["instance", "numbers", "rows"] := ⟨_, _, PySem.W.mg_of X G a, fun_mk l c k, (fun_mk l c k).binds (ps := ["instance", "numbers", "rows"]) fun _ _ _ _ _ _ us hl => match us, hl with | [_, _, _], _ => rfl⟩
theorem mk_slack {f : Addr} {od an : Option Addr} {sl : Array (Option Value)} {oc kV dc pm cd ct : Value} (X : K.In h) (G : h.Ns mainGlobals mg) (a : PySem.W.nsIn K mainGlobals "slack" = some (some (.ref f))) (l : K.lookup f = some ⟨oc, od, .func (PySem.W.fnOf "slack" "slack" (defArgs (top 80)) (defBody (top 80)) (defScope (top 80)) .none kV dc pm an cd ct), sl⟩) (c : PySem.W.codeIn K cd "slack" = true) (k : PySem.W.keepIn K (.ref f) = true) : DefAt K mg "slack" (top 80) ["instance", "numbers", "rows"] := ⟨_, _, PySem.W.mg_of X G a, fun_mk l c k, (fun_mk l c k).binds (ps := ["instance", "numbers", "rows"]) fun _ _ _ _ _ _ us hl => match us, hl with | [_, _, _], _ => rfl⟩
theorem mk_check_bound {f : Addr} {od an : Option Addr} {sl : Array (Option Value)} {oc kV dc pm cd ct : Value} (X : K.In h) (G : h.Ns mainGlobals mg) (a : PySem.W.nsIn K mainGlobals "check_bound" = some (some (.ref f))) (l : K.lookup f = some ⟨oc, od, .func (PySem.W.fnOf "check_bound" "check_bound" (defArgs (top 81)) (defBody (top 81)) (defScope (top 81)) .none kV dc pm an cd ct), sl⟩) (c : PySem.W.codeIn K cd "check_bound" = true) (k : PySem.W.keepIn K (.ref f) = true) : DefAt K mg "check_bound" (top 81) ["instance", "numbers", "rows"] := ⟨_, _, PySem.W.mg_of X G a, fun_mk l c k, (fun_mk l c k).binds (ps := ["instance", "numbers", "rows"]) fun _ _ _ _ _ _ us hl => match us, hl with | [_, _, _], _ => rfl⟩
theorem mk_check_refutation {f : Addr} {od an : Option Addr} {sl : Array (Option Value)} {oc kV dc pm cd ct : Value} (X : K.In h) (G : h.Ns mainGlobals mg) (a : PySem.W.nsIn K mainGlobals "check_refutation" = some (some (.ref f))) (l : K.lookup f = some ⟨oc, od, .func (PySem.W.fnOf "check_refutation" "check_refutation" (defArgs (top 82)) (defBody (top 82)) (defScope (top 82)) .none kV dc pm an cd ct), sl⟩) (c : PySem.W.codeIn K cd "check_refutation" = true) (k : PySem.W.keepIn K (.ref f) = true) : DefAt K mg "check_refutation" (top 82) ["instance", "numbers", "rows"] := ⟨_, _, PySem.W.mg_of X G a, fun_mk l c k, (fun_mk l c k).binds (ps := ["instance", "numbers", "rows"]) fun _ _ _ _ _ _ us hl => match us, hl with | [_, _, _], _ => rfl⟩
theorem mk_check_ray {f : Addr} {od an : Option Addr} {sl : Array (Option Value)} {oc kV dc pm cd ct : Value} (X : K.In h) (G : h.Ns mainGlobals mg) (a : PySem.W.nsIn K mainGlobals "check_ray" = some (some (.ref f))) (l : K.lookup f = some ⟨oc, od, .func (PySem.W.fnOf "check_ray" "check_ray" (defArgs (top 83)) (defBody (top 83)) (defScope (top 83)) .none kV dc pm an cd ct), sl⟩) (c : PySem.W.codeIn K cd "check_ray" = true) (k : PySem.W.keepIn K (.ref f) = true) : DefAt K mg "check_ray" (top 83) ["instance", "numbers", "rows"] := ⟨_, _, PySem.W.mg_of X G a, fun_mk l c k, (fun_mk l c k).binds (ps := ["instance", "numbers", "rows"]) fun _ _ _ _ _ _ us hl => match us, hl with | [_, _, _], _ => rfl⟩
theorem mk_check_optimum {f : Addr} {od an : Option Addr} {sl : Array (Option Value)} {oc kV dc pm cd ct : Value} (X : K.In h) (G : h.Ns mainGlobals mg) (a : PySem.W.nsIn K mainGlobals "check_optimum" = some (some (.ref f))) (l : K.lookup f = some ⟨oc, od, .func (PySem.W.fnOf "check_optimum" "check_optimum" (defArgs (top 84)) (defBody (top 84)) (defScope (top 84)) .none kV dc pm an cd ct), sl⟩) (c : PySem.W.codeIn K cd "check_optimum" = true) (k : PySem.W.keepIn K (.ref f) = true) : DefAt K mg "check_optimum" (top 84) ["instance", "numbers", "rows"] := ⟨_, _, PySem.W.mg_of X G a, fun_mk l c k, (fun_mk l c k).binds (ps := ["instance", "numbers", "rows"]) fun _ _ _ _ _ _ us hl => match us, hl with | [_, _, _], _ => rfl⟩
theorem mk_asymptotic {f : Addr} {od an : Option Addr} {sl : Array (Option Value)} {oc kV dc pm cd ct : Value} (X : K.In h) (G : h.Ns mainGlobals mg) (a : PySem.W.nsIn K mainGlobals "asymptotic" = some (some (.ref f))) (l : K.lookup f = some ⟨oc, od, .func (PySem.W.fnOf "asymptotic" "asymptotic" (defArgs (top 85)) (defBody (top 85)) (defScope (top 85)) .none kV dc pm an cd ct), sl⟩) (c : PySem.W.codeIn K cd "asymptotic" = true) (k : PySem.W.keepIn K (.ref f) = true) : DefAt K mg "asymptotic" (top 85) ["instance", "numbers", "rows"] := ⟨_, _, PySem.W.mg_of X G a, fun_mk l c k, (fun_mk l c k).binds (ps := ["instance", "numbers", "rows"]) fun _ _ _ _ _ _ us hl => match us, hl with | [_, _, _], _ => rfl⟩
theorem mk_balanced {f : Addr} {od an : Option Addr} {sl : Array (Option Value)} {oc kV dc pm cd ct : Value} (X : K.In h) (G : h.Ns mainGlobals mg) (a : PySem.W.nsIn K mainGlobals "balanced" = some (some (.ref f))) (l : K.lookup f = some ⟨oc, od, .func (PySem.W.fnOf "balanced" "balanced" (defArgs (top 86)) (defBody (top 86)) (defScope (top 86)) .none kV dc pm an cd ct), sl⟩) (c : PySem.W.codeIn K cd "balanced" = true) (k : PySem.W.keepIn K (.ref f) = true) : DefAt K mg "balanced" (top 86) ["instance", "numbers", "rows"] := ⟨_, _, PySem.W.mg_of X G a, fun_mk l c k, (fun_mk l c k).binds (ps := ["instance", "numbers", "rows"]) fun _ _ _ _ _ _ us hl => match us, hl with | [_, _, _], _ => rfl⟩
theorem mk_exact {f : Addr} {od an : Option Addr} {sl : Array (Option Value)} {oc kV dc pm cd ct : Value} (X : K.In h) (G : h.Ns mainGlobals mg) (a : PySem.W.nsIn K mainGlobals "exact" = some (some (.ref f))) (l : K.lookup f = some ⟨oc, od, .func (PySem.W.fnOf "exact" "exact" (defArgs (top 87)) (defBody (top 87)) (defScope (top 87)) .none kV dc pm an cd ct), sl⟩) (c : PySem.W.codeIn K cd "exact" = true) (k : PySem.W.keepIn K (.ref f) = true) : DefAt K mg "exact" (top 87) ["instance", "numbers", "rows"] := ⟨_, _, PySem.W.mg_of X G a, fun_mk l c k, (fun_mk l c k).binds (ps := ["instance", "numbers", "rows"]) fun _ _ _ _ _ _ us hl => match us, hl with | [_, _, _], _ => rfl⟩
theorem mk_saturation {f : Addr} {od an : Option Addr} {sl : Array (Option Value)} {oc kV dc pm cd ct : Value} (X : K.In h) (G : h.Ns mainGlobals mg) (a : PySem.W.nsIn K mainGlobals "saturation" = some (some (.ref f))) (l : K.lookup f = some ⟨oc, od, .func (PySem.W.fnOf "saturation" "saturation" (defArgs (top 88)) (defBody (top 88)) (defScope (top 88)) .none kV dc pm an cd ct), sl⟩) (c : PySem.W.codeIn K cd "saturation" = true) (k : PySem.W.keepIn K (.ref f) = true) : DefAt K mg "saturation" (top 88) ["instance", "numbers", "rows"] := ⟨_, _, PySem.W.mg_of X G a, fun_mk l c k, (fun_mk l c k).binds (ps := ["instance", "numbers", "rows"]) fun _ _ _ _ _ _ us hl => match us, hl with | [_, _, _], _ => rfl⟩
theorem mk_exact_curve {f : Addr} {od an : Option Addr} {sl : Array (Option Value)} {oc kV dc pm cd ct : Value} (X : K.In h) (G : h.Ns mainGlobals mg) (a : PySem.W.nsIn K mainGlobals "exact_curve" = some (some (.ref f))) (l : K.lookup f = some ⟨oc, od, .func (PySem.W.fnOf "exact_curve" "exact_curve" (defArgs (top 89)) (defBody (top 89)) (defScope (top 89)) .none kV dc pm an cd ct), sl⟩) (c : PySem.W.codeIn K cd "exact_curve" = true) (k : PySem.W.keepIn K (.ref f) = true) : DefAt K mg "exact_curve" (top 89) ["instance", "numbers", "rows"] := ⟨_, _, PySem.W.mg_of X G a, fun_mk l c k, (fun_mk l c k).binds (ps := ["instance", "numbers", "rows"]) fun _ _ _ _ _ _ us hl => match us, hl with | [_, _, _], _ => rfl⟩
theorem mk_summary {f : Addr} {od an : Option Addr} {sl : Array (Option Value)} {oc kV dc pm cd ct : Value} (X : K.In h) (G : h.Ns mainGlobals mg) (a : PySem.W.nsIn K mainGlobals "summary" = some (some (.ref f))) (l : K.lookup f = some ⟨oc, od, .func (PySem.W.fnOf "summary" "summary" (defArgs (top 90)) (defBody (top 90)) (defScope (top 90)) .none kV dc pm an cd ct), sl⟩) (c : PySem.W.codeIn K cd "summary" = true) (k : PySem.W.keepIn K (.ref f) = true) : DefAt K mg "summary" (top 90) ["instance", "numbers", "rows"] := ⟨_, _, PySem.W.mg_of X G a, fun_mk l c k, (fun_mk l c k).binds (ps := ["instance", "numbers", "rows"]) fun _ _ _ _ _ _ us hl => match us, hl with | [_, _, _], _ => rfl⟩
theorem mk_answer_of {f : Addr} {od an : Option Addr} {sl : Array (Option Value)} {oc kV dc pm cd ct : Value} (X : K.In h) (G : h.Ns mainGlobals mg) (a : PySem.W.nsIn K mainGlobals "answer_of" = some (some (.ref f))) (l : K.lookup f = some ⟨oc, od, .func (PySem.W.fnOf "answer_of" "answer_of" (defArgs (top 92)) (defBody (top 92)) (defScope (top 92)) .none kV dc pm an cd ct), sl⟩) (c : PySem.W.codeIn K cd "answer_of" = true) (k : PySem.W.keepIn K (.ref f) = true) : DefAt K mg "answer_of" (top 92) ["instance", "number", "numbers", "rows"] := ⟨_, _, PySem.W.mg_of X G a, fun_mk l c k, (fun_mk l c k).binds (ps := ["instance", "number", "numbers", "rows"]) fun _ _ _ _ _ _ us hl => match us, hl with | [_, _, _, _], _ => rfl⟩
theorem mk_read_rows {f : Addr} {od an : Option Addr} {sl : Array (Option Value)} {oc kV dc pm cd ct : Value} (X : K.In h) (G : h.Ns mainGlobals mg) (a : PySem.W.nsIn K mainGlobals "read_rows" = some (some (.ref f))) (l : K.lookup f = some ⟨oc, od, .func (PySem.W.fnOf "read_rows" "read_rows" (defArgs (top 95)) (defBody (top 95)) (defScope (top 95)) .none kV dc pm an cd ct), sl⟩) (c : PySem.W.codeIn K cd "read_rows" = true) (k : PySem.W.keepIn K (.ref f) = true) : DefAt K mg "read_rows" (top 95) ["calls", "place", "count"] := ⟨_, _, PySem.W.mg_of X G a, fun_mk l c k, (fun_mk l c k).binds (ps := ["calls", "place", "count"]) fun _ _ _ _ _ _ us hl => match us, hl with | [_, _, _], _ => rfl⟩
theorem mk_read_calls {f : Addr} {od an : Option Addr} {sl : Array (Option Value)} {oc kV dc pm cd ct : Value} (X : K.In h) (G : h.Ns mainGlobals mg) (a : PySem.W.nsIn K mainGlobals "read_calls" = some (some (.ref f))) (l : K.lookup f = some ⟨oc, od, .func (PySem.W.fnOf "read_calls" "read_calls" (defArgs (top 96)) (defBody (top 96)) (defScope (top 96)) .none kV dc pm an cd ct), sl⟩) (c : PySem.W.codeIn K cd "read_calls" = true) (k : PySem.W.keepIn K (.ref f) = true) : DefAt K mg "read_calls" (top 96) ["calls"] := ⟨_, _, PySem.W.mg_of X G a, fun_mk l c k, (fun_mk l c k).binds (ps := ["calls"]) fun _ _ _ _ _ _ us hl => match us, hl with | [_], _ => rfl⟩
theorem mkm_System_reduced {f C : Addr} {od an : Option Addr} {sl : Array (Option Value)} {oc kV dc pm cd ct : Value} (a : PySem.W.findIn K (.ref C) "reduced" = some (some (.ref f))) (i : PySem.W.isFn K (.ref f) = true) (l : K.lookup f = some ⟨oc, od, .func (PySem.W.fnOf "reduced" "System.reduced" (defArgs (inClass (top 39) 1)) (defBody (inClass (top 39) 1)) (defScope (inClass (top 39) 1)) .none kV dc pm an cd ct), sl⟩) (c : PySem.W.codeIn K cd "System.reduced" = true) (k : PySem.W.keepIn K (.ref f) = true) : MethAt K C "reduced" "System.reduced" (inClass (top 39) 1) ["self", "equation"] := ⟨_, _, ⟨a, i, k⟩, fun_mk l c k, (fun_mk l c k).binds (ps := ["self", "equation"]) fun _ _ _ _ _ _ us hl => match us, hl with | [_, _], _ => rfl⟩
theorem mkm_System_cleared {f C : Addr} {od an : Option Addr} {sl : Array (Option Value)} {oc kV dc pm cd ct : Value} (a : PySem.W.findIn K (.ref C) "cleared" = some (some (.ref f))) (i : PySem.W.isFn K (.ref f) = true) (l : K.lookup f = some ⟨oc, od, .func (PySem.W.fnOf "cleared" "System.cleared" (defArgs (inClass (top 39) 2)) (defBody (inClass (top 39) 2)) (defScope (inClass (top 39) 2)) .none kV dc pm an cd ct), sl⟩) (c : PySem.W.codeIn K cd "System.cleared" = true) (k : PySem.W.keepIn K (.ref f) = true) : MethAt K C "cleared" "System.cleared" (inClass (top 39) 2) ["self", "row", "rest", "column"] := ⟨_, _, ⟨a, i, k⟩, fun_mk l c k, (fun_mk l c k).binds (ps := ["self", "row", "rest", "column"]) fun _ _ _ _ _ _ us hl => match us, hl with | [_, _, _, _], _ => rfl⟩
theorem mkm_System_with_equation {f C : Addr} {od an : Option Addr} {sl : Array (Option Value)} {oc kV dc pm cd ct : Value} (a : PySem.W.findIn K (.ref C) "with_equation" = some (some (.ref f))) (i : PySem.W.isFn K (.ref f) = true) (l : K.lookup f = some ⟨oc, od, .func (PySem.W.fnOf "with_equation" "System.with_equation" (defArgs (inClass (top 39) 3)) (defBody (inClass (top 39) 3)) (defScope (inClass (top 39) 3)) .none kV dc pm an cd ct), sl⟩) (c : PySem.W.codeIn K cd "System.with_equation" = true) (k : PySem.W.keepIn K (.ref f) = true) : MethAt K C "with_equation" "System.with_equation" (inClass (top 39) 3) ["self", "equation"] := ⟨_, _, ⟨a, i, k⟩, fun_mk l c k, (fun_mk l c k).binds (ps := ["self", "equation"]) fun _ _ _ _ _ _ us hl => match us, hl with | [_, _], _ => rfl⟩
theorem mkm_System_solution {f C : Addr} {od an : Option Addr} {sl : Array (Option Value)} {oc kV dc pm cd ct : Value} (a : PySem.W.findIn K (.ref C) "solution" = some (some (.ref f))) (i : PySem.W.isFn K (.ref f) = true) (l : K.lookup f = some ⟨oc, od, .func (PySem.W.fnOf "solution" "System.solution" (defArgs (inClass (top 39) 4)) (defBody (inClass (top 39) 4)) (defScope (inClass (top 39) 4)) .none kV dc pm an cd ct), sl⟩) (c : PySem.W.codeIn K cd "System.solution" = true) (k : PySem.W.keepIn K (.ref f) = true) : MethAt K C "solution" "System.solution" (inClass (top 39) 4) ["self"] := ⟨_, _, ⟨a, i, k⟩, fun_mk l c k, (fun_mk l c k).binds (ps := ["self"]) fun _ _ _ _ _ _ us hl => match us, hl with | [_], _ => rfl⟩
theorem mki_Instance {f C : Addr} {od an : Option Addr} {sl : Array (Option Value)} {oc kV dc pm cd ct : Value} (mk : PySem.W.makesIn K C = true) (a : PySem.W.findIn K (.ref C) "__init__" = some (some (.ref f))) (i : PySem.W.isFn K (.ref f) = true) (kc : PySem.W.keepIn K (.ref C) = true) (l : K.lookup f = some ⟨oc, od, .func (PySem.W.fnOf "__init__" "Instance.__init__" (defArgs (inClass (top 1) 0)) (defBody (inClass (top 1) 0)) (defScope (inClass (top 1) 0)) .none kV dc pm an cd ct), sl⟩) (c : PySem.W.codeIn K cd "Instance.__init__" = true) (k : PySem.W.keepIn K (.ref f) = true) : InitAt K C "Instance.__init__" (inClass (top 1) 0) ["self"] := ⟨_, _, ⟨mk, a, i, kc⟩, fun_mk l c k, (fun_mk l c k).binds (ps := ["self"]) fun _ _ _ _ _ _ us hl => match us, hl with | [_], _ => rfl⟩
theorem mki_Cycle {f C : Addr} {od an : Option Addr} {sl : Array (Option Value)} {oc kV dc pm cd ct : Value} (mk : PySem.W.makesIn K C = true) (a : PySem.W.findIn K (.ref C) "__init__" = some (some (.ref f))) (i : PySem.W.isFn K (.ref f) = true) (kc : PySem.W.keepIn K (.ref C) = true) (l : K.lookup f = some ⟨oc, od, .func (PySem.W.fnOf "__init__" "Cycle.__init__" (defArgs (inClass (top 31) 0)) (defBody (inClass (top 31) 0)) (defScope (inClass (top 31) 0)) .none kV dc pm an cd ct), sl⟩) (c : PySem.W.codeIn K cd "Cycle.__init__" = true) (k : PySem.W.keepIn K (.ref f) = true) : InitAt K C "Cycle.__init__" (inClass (top 31) 0) ["self", "think", "customers", "demands"] := ⟨_, _, ⟨mk, a, i, kc⟩, fun_mk l c k, (fun_mk l c k).binds (ps := ["self", "think", "customers", "demands"]) fun _ _ _ _ _ _ us hl => match us, hl with | [_, _, _, _], _ => rfl⟩
theorem mki_System {f C : Addr} {od an : Option Addr} {sl : Array (Option Value)} {oc kV dc pm cd ct : Value} (mk : PySem.W.makesIn K C = true) (a : PySem.W.findIn K (.ref C) "__init__" = some (some (.ref f))) (i : PySem.W.isFn K (.ref f) = true) (kc : PySem.W.keepIn K (.ref C) = true) (l : K.lookup f = some ⟨oc, od, .func (PySem.W.fnOf "__init__" "System.__init__" (defArgs (inClass (top 39) 0)) (defBody (inClass (top 39) 0)) (defScope (inClass (top 39) 0)) .none kV dc pm an cd ct), sl⟩) (c : PySem.W.codeIn K cd "System.__init__" = true) (k : PySem.W.keepIn K (.ref f) = true) : InitAt K C "System.__init__" (inClass (top 39) 0) ["self", "pivot", "columns", "rows"] := ⟨_, _, ⟨mk, a, i, kc⟩, fun_mk l c k, (fun_mk l c k).binds (ps := ["self", "pivot", "columns", "rows"]) fun _ _ _ _ _ _ us hl => match us, hl with | [_, _, _, _], _ => rfl⟩
theorem mki_Program {f C : Addr} {od an : Option Addr} {sl : Array (Option Value)} {oc kV dc pm cd ct : Value} (mk : PySem.W.makesIn K C = true) (a : PySem.W.findIn K (.ref C) "__init__" = some (some (.ref f))) (i : PySem.W.isFn K (.ref f) = true) (kc : PySem.W.keepIn K (.ref C) = true) (l : K.lookup f = some ⟨oc, od, .func (PySem.W.fnOf "__init__" "Program.__init__" (defArgs (inClass (top 44) 0)) (defBody (inClass (top 44) 0)) (defScope (inClass (top 44) 0)) .none kV dc pm an cd ct), sl⟩) (c : PySem.W.codeIn K cd "Program.__init__" = true) (k : PySem.W.keepIn K (.ref f) = true) : InitAt K C "Program.__init__" (inClass (top 44) 0) ["self", "width", "rows", "goal"] := ⟨_, _, ⟨mk, a, i, kc⟩, fun_mk l c k, (fun_mk l c k).binds (ps := ["self", "width", "rows", "goal"]) fun _ _ _ _ _ _ us hl => match us, hl with | [_, _, _, _], _ => rfl⟩
theorem mk_fin {f fa CI CC CS CP : Addr} {od an : Option Addr} {sl : Array (Option Value)} {oc kV dc pm cd ct : Value} (X : K.In h) (G : h.Ns mainGlobals mg) (hfa : mg "answers" = some (.ref fa)) (a : PySem.W.nsIn K mainGlobals "answers" = some (some (.ref f))) (l : K.lookup f = some ⟨oc, od, .func (PySem.W.fnOf "answers" "answers" (defArgs (top 98)) (defBody (top 98)) (defScope (top 98)) .none kV dc pm an cd ct), sl⟩) (c : PySem.W.codeIn K cd "answers" = true) (k : PySem.W.keepIn K (.ref f) = true) (T : Txt K mg CI CC CS CP) :
    ∃ fd : FuncData, (∀ (s : Shared) (us : List Value), us.length = (["calls"] : List Str).length → BindsTo s fd ⟨us, []⟩ ((["calls"] : List Str).zip us)) ∧ ∀ base : Heap, K.In base → base.Ns mainGlobals mg → FnOk P w K mg base CX0 30 fa fd ["calls"] (SpFin K) := by
  have e := hfa.symm.trans (PySem.W.mg_of X G a)
  cases e
  exact ⟨_, fun s us hu => match us, hu with | [_], _ => .of_eq rfl, fun base _ _ => fin_ok T (fun_mk l c k)⟩
theorem mk_cls {C : Addr} (pg : PySem.W.plainGet K C Str.empty = true) (hd : PySem.W.hasDictIn K C = true) (po : PySem.W.plainOver K C = true) (sa : PySem.W.findIn K (.ref C) "__setattr__" = some (some (.builtin "object.__setattr__"))) : Cls K C := ⟨pg, hd, po, sa⟩
theorem mk_int {x : Str} {i : Int} {t : Tok} (X : K.In h) (G : h.Ns mainGlobals mg) (a : PySem.W.nsIn K mainGlobals x = some (some (.int i t))) : ∃ t, mg x = some (.int i t) := ⟨t, PySem.W.mg_of X G a⟩
/-- a written dict's keys, looked through -/
def keysB (es : Array DictEntry) : Bool := es.toList.all fun e => match e.key with
  | .int k _ => decide (e.hash = hashInt k)
  | _ => false
theorem keys_of {es : Array DictEntry} (h : keysB es = true) : IntKeys es := fun e he => by
  have := List.all_eq_true.mp h e (Array.mem_toList_iff.mpr he)
  split at this
  · rename_i k t q
    exact ⟨k, t, q, of_decide_eq_true this⟩
  · cases this
/-- the table: what stands at each number, and under which name -/
def AllO (K : PySem.W.Frag) (es : Array DictEntry) (l : List (Int × Str)) : Prop := ∀ p ∈ l, ∃ f, findBy Value.isInt es p.1 = some (.ref f) ∧ PySem.W.nsIn K mainGlobals p.2 = some (some (.ref f))
theorem allO_nil {es : Array DictEntry} : AllO K es [] := fun p hp => absurd hp List.not_mem_nil
theorem allO_cons {es : Array DictEntry} {i : Int} {x : Str} {f : Addr} {l : List (Int × Str)} (a : PySem.W.nsIn K mainGlobals x = some (some (.ref f))) (b : findBy Value.isInt es i = some (.ref f)) (r : AllO K es l) : AllO K es ((i, x) :: l) := fun p hp => by
  rcases List.mem_cons.mp hp with e | hp
  · rw [e]
    exact ⟨f, b, a⟩
  · exact r p hp
theorem mk_ops {d : Addr} {es : Array DictEntry} {n : Nat} (X : K.In h) (G : h.Ns mainGlobals mg) (a : PySem.W.nsIn K mainGlobals "OPERATIONS" = some (some (.ref d))) (l : K.lookup d = some ⟨.type "dict", none, .dict es n, #[]⟩) (ks : keysB es = true) (o : AllO K es opsTable) : OpsAt K mg :=
  ⟨d, es, n, PySem.W.mg_of X G a, l, keys_of ks, fun p hp => (o p hp).elim fun f q => ⟨f, q.1, PySem.W.mg_of X G q.2⟩⟩
/-- the pairs -/
def AllS (K : PySem.W.Frag) (bs : List Addr) (l : List (Int × Int)) : Prop := bs.length = l.length ∧ ∀ (i : Nat) (b : Addr) (p : Int × Int), bs[i]? = some b → l[i]? = some p → ∀ H : Hp, SqT K H b [.int p.1, .int p.2]
theorem allS_nil : AllS K [] [] := ⟨rfl, fun i b p h => by simp at h⟩
theorem allS_cons {b : Addr} {bs : List Addr} {x y : Int} {l : List (Int × Int)} {od : Option Addr} {m : Nat} {sl : Array (Option Value)} {t1 t2 : Tok} (a : K.lookup b = some ⟨.type "tuple", od, .seq #[.int x t1, .int y t2] m, sl⟩) (r : AllS K bs l) : AllS K (b :: bs) ((x, y) :: l) := by
  refine ⟨by rw [List.length_cons, List.length_cons, r.1], fun i b' p h1 h2 H => ?_⟩
  cases i with
  | zero =>
    cases h1
    cases h2
    exact .inr ⟨_, #[.int x t1, .int y t2], m, a, rfl, rfl, (by show 2 ≤ sizeLine; decide), .cons ⟨t1, rfl⟩ (.cons ⟨t2, rfl⟩ .nil)⟩
  | succ i => exact r.2 i b' p h1 h2 H
theorem vals_refs : ∀ (bs : List Addr), Vals (bs.map V.ref) (bs.map Value.ref)
  | [] => .nil
  | _ :: bs => .cons rfl (vals_refs bs)
theorem mk_shapes {sh : Addr} {od : Option Addr} {n : Nat} {sl : Array (Option Value)} {us : Array Value} {bs : List Addr} (X : K.In h) (G : h.Ns mainGlobals mg) (a : PySem.W.nsIn K mainGlobals "SHAPES" = some (some (.ref sh))) (l : K.lookup sh = some ⟨.type "tuple", od, .seq us n, sl⟩) (hus : us.toList = bs.map Value.ref) (r : AllS K bs shapesTable) : ShapesAt K mg := by
  refine ⟨sh, bs, PySem.W.mg_of X G a, fun H => .inr ⟨_, us, n, l, rfl, rfl, ?_, by rw [hus]; exact vals_refs bs⟩, r.1, r.2⟩
  have : us.size = 23 := by
    have h1 := congrArg List.length hus
    rw [List.length_map, r.1, Array.length_toList] at h1
    exact h1
  rw [this]
  decide
theorem mk_answers {f : Addr} {od an : Option Addr} {sl : Array (Option Value)} {oc kV dc pm cd ct : Value} (X : K.In h) (G : h.Ns mainGlobals mg) (a : PySem.W.nsIn K mainGlobals "answers" = some (some (.ref f))) (l : K.lookup f = some ⟨oc, od, .func (PySem.W.fnOf "answers" "answers" (defArgs (top 98)) (defBody (top 98)) (defScope (top 98)) .none kV dc pm an cd ct), sl⟩) (c : PySem.W.codeIn K cd "answers" = true) (k : PySem.W.keepIn K (.ref f) = true) : DefAt K mg "answers" (top 98) ["calls"] := ⟨_, _, PySem.W.mg_of X G a, fun_mk l c k, (fun_mk l c k).binds (ps := ["calls"]) fun _ _ _ _ _ _ us hl => match us, hl with | [_], _ => rfl⟩
theorem mk_txt {CI CC CS CP : Addr} (X : K.In h) (G : h.Ns mainGlobals mg) (g_Instance : PySem.W.nsIn K mainGlobals "Instance" = some (some (.ref CI))) (g_Cycle : PySem.W.nsIn K mainGlobals "Cycle" = some (some (.ref CC))) (g_System : PySem.W.nsIn K mainGlobals "System" = some (some (.ref CS))) (g_Program : PySem.W.nsIn K mainGlobals "Program" = some (some (.ref CP))) (c_Instance : Cls K CI) (c_Cycle : Cls K CC) (c_System : Cls K CS) (c_Program : Cls K CP) (a_Instance_program : PySem.W.findIn K (.ref CI) "program" = some none) (a_Instance_cycle : PySem.W.findIn K (.ref CI) "cycle" = some none) (a_Cycle_think : PySem.W.findIn K (.ref CC) "think" = some none) (a_Cycle_customers : PySem.W.findIn K (.ref CC) "customers" = some none) (a_Cycle_demands : PySem.W.findIn K (.ref CC) "demands" = some none) (a_System_pivot : PySem.W.findIn K (.ref CS) "pivot" = some none) (a_System_columns : PySem.W.findIn K (.ref CS) "columns" = some none) (a_System_rows : PySem.W.findIn K (.ref CS) "rows" = some none) (a_Program_width : PySem.W.findIn K (.ref CP) "width" = some none) (a_Program_rows : PySem.W.findIn K (.ref CP) "rows" = some none) (a_Program_goal : PySem.W.findIn K (.ref CP) "goal" = some none) (i_Instance : InitAt K CI "Instance.__init__" (inClass (top 1) 0) ["self"]) (i_Cycle : InitAt K CC "Cycle.__init__" (inClass (top 31) 0) ["self", "think", "customers", "demands"]) (i_System : InitAt K CS "System.__init__" (inClass (top 39) 0) ["self", "pivot", "columns", "rows"]) (i_Program : InitAt K CP "Program.__init__" (inClass (top 44) 0) ["self", "width", "rows", "goal"]) (m_System_reduced : MethAt K CS "reduced" "System.reduced" (inClass (top 39) 1) ["self", "equation"]) (m_System_cleared : MethAt K CS "cleared" "System.cleared" (inClass (top 39) 2) ["self", "row", "rest", "column"]) (m_System_with_equation : MethAt K CS "with_equation" "System.with_equation" (inClass (top 39) 3) ["self", "equation"]) (m_System_solution : MethAt K CS "solution" "System.solution" (inClass (top 39) 4) ["self"]) (d_is_variables : DefAt K mg "is_variables" (top 11) ["number"]) (d_is_coefficient : DefAt K mg "is_coefficient" (top 12) ["number"]) (d_are_coefficients : DefAt K mg "are_coefficients" (top 13) ["numbers", "width"]) (d_is_vector : DefAt K mg "is_vector" (top 14) ["nums", "dens", "width"]) (d_are_demands : DefAt K mg "are_demands" (top 15) ["numbers"]) (d_is_cycle : DefAt K mg "is_cycle" (top 16) ["think", "customers", "demands"]) (d_is_most : DefAt K mg "is_most" (top 17) ["number"]) (d_dot : DefAt K mg "dot" (top 19) ["row", "point"]) (d_greatest_divisor : DefAt K mg "greatest_divisor" (top 20) ["first", "second"]) (d_lowest : DefAt K mg "lowest" (top 21) ["numerator", "denominator"]) (d_lowest_point : DefAt K mg "lowest_point" (top 22) ["numbers"]) (d_point_of : DefAt K mg "point_of" (top 23) ["nums", "dens"]) (d_fractions_of : DefAt K mg "fractions_of" (top 24) ["point"]) (d_value_of : DefAt K mg "value_of" (top 25) ["goal", "point"]) (d_exceeds : DefAt K mg "exceeds" (top 26) ["point", "other", "goal"]) (d_comes_before : DefAt K mg "comes_before" (top 27) ["point", "other"]) (d_first_of : DefAt K mg "first_of" (top 28) ["points"]) (d_best_of : DefAt K mg "best_of" (top 29) ["points", "goal"]) (d_smaller : DefAt K mg "smaller" (top 32) ["first", "second"]) (d_asymptotic_bounds : DefAt K mg "asymptotic_bounds" (top 33) ["cycle"]) (d_balanced_bounds : DefAt K mg "balanced_bounds" (top 34) ["cycle"]) (d_exact_throughputs : DefAt K mg "exact_throughputs" (top 35) ["cycle", "most"]) (d_saturation_of : DefAt K mg "saturation_of" (top 36) ["cycle"]) (d_first_filled : DefAt K mg "first_filled" (top 38) ["numbers"]) (d_keeps_to : DefAt K mg "keeps_to" (top 45) ["program", "point"]) (d_sign_rows : DefAt K mg "sign_rows" (top 46) ["width"]) (d_search_corners : DefAt K mg "search_corners" (top 47) ["program", "system", "conditions", "found"]) (d_corners_from : DefAt K mg "corners_from" (top 48) ["program", "system"]) (d_corners_of : DefAt K mg "corners_of" (top 49) ["program"]) (d_cone_of : DefAt K mg "cone_of" (top 50) ["program"]) (d_rays_of : DefAt K mg "rays_of" (top 51) ["program"]) (d_gains : DefAt K mg "gains" (top 52) ["program", "point"]) (d_improving_rays_of : DefAt K mg "improving_rays_of" (top 53) ["program"]) (d_is_improving : DefAt K mg "is_improving" (top 54) ["program", "point"]) (d_dual_of : DefAt K mg "dual_of" (top 55) ["program"]) (d_proven_bound_of : DefAt K mg "proven_bound_of" (top 56) ["program", "point"]) (d_status_of : DefAt K mg "status_of" (top 57) ["program"]) (d_refusal : DefAt K mg "refusal" (top 65) ["number"]) (d_create : DefAt K mg "create" (top 68) ["instance", "numbers", "rows"]) (d_add_constraint : DefAt K mg "add_constraint" (top 69) ["instance", "numbers", "rows"]) (d_remove_constraint : DefAt K mg "remove_constraint" (top 70) ["instance", "numbers", "rows"]) (d_set_objective : DefAt K mg "set_objective" (top 71) ["instance", "numbers", "rows"]) (d_set_cycle : DefAt K mg "set_cycle" (top 72) ["instance", "numbers", "rows"]) (d_status : DefAt K mg "status" (top 73) ["instance", "numbers", "rows"]) (d_optimum : DefAt K mg "optimum" (top 74) ["instance", "numbers", "rows"]) (d_multipliers : DefAt K mg "multipliers" (top 75) ["instance", "numbers", "rows"]) (d_refutation : DefAt K mg "refutation" (top 76) ["instance", "numbers", "rows"]) (d_ray : DefAt K mg "ray" (top 77) ["instance", "numbers", "rows"]) (d_corners : DefAt K mg "corners" (top 78) ["instance", "numbers", "rows"]) (d_is_feasible : DefAt K mg "is_feasible" (top 79) ["instance", "numbers", "rows"]) (d_slack : DefAt K mg "slack" (top 80) ["instance", "numbers", "rows"]) (d_check_bound : DefAt K mg "check_bound" (top 81) ["instance", "numbers", "rows"]) (d_check_refutation : DefAt K mg "check_refutation" (top 82) ["instance", "numbers", "rows"]) (d_check_ray : DefAt K mg "check_ray" (top 83) ["instance", "numbers", "rows"]) (d_check_optimum : DefAt K mg "check_optimum" (top 84) ["instance", "numbers", "rows"]) (d_asymptotic : DefAt K mg "asymptotic" (top 85) ["instance", "numbers", "rows"]) (d_balanced : DefAt K mg "balanced" (top 86) ["instance", "numbers", "rows"]) (d_exact : DefAt K mg "exact" (top 87) ["instance", "numbers", "rows"]) (d_saturation : DefAt K mg "saturation" (top 88) ["instance", "numbers", "rows"]) (d_exact_curve : DefAt K mg "exact_curve" (top 89) ["instance", "numbers", "rows"]) (d_summary : DefAt K mg "summary" (top 90) ["instance", "numbers", "rows"]) (d_answer_of : DefAt K mg "answer_of" (top 92) ["instance", "number", "numbers", "rows"]) (d_read_rows : DefAt K mg "read_rows" (top 95) ["calls", "place", "count"]) (d_read_calls : DefAt K mg "read_calls" (top 96) ["calls"]) (k_MOST_VARIABLES : ∃ t, mg "MOST_VARIABLES" = some (.int 5 t)) (k_MOST_CONSTRAINTS : ∃ t, mg "MOST_CONSTRAINTS" = some (.int 6 t)) (k_GREATEST_COEFFICIENT : ∃ t, mg "GREATEST_COEFFICIENT" = some (.int 1000 t)) (k_GREATEST_THINK : ∃ t, mg "GREATEST_THINK" = some (.int 10000 t)) (k_MOST_CUSTOMERS : ∃ t, mg "MOST_CUSTOMERS" = some (.int 40 t)) (k_MOST_QUEUES : ∃ t, mg "MOST_QUEUES" = some (.int 8 t)) (k_GREATEST_DEMAND : ∃ t, mg "GREATEST_DEMAND" = some (.int 1000 t)) (k_GREATEST_MOST : ∃ t, mg "GREATEST_MOST" = some (.int 12 t)) (k_OPTIMAL : ∃ t, mg "OPTIMAL" = some (.int 0 t)) (k_INFEASIBLE : ∃ t, mg "INFEASIBLE" = some (.int 1 t)) (k_UNBOUNDED : ∃ t, mg "UNBOUNDED" = some (.int 2 t)) (k_NO_CONSTRAINT : ∃ t, mg "NO_CONSTRAINT" = some (.int 2 t)) (k_NO_CYCLE : ∃ t, mg "NO_CYCLE" = some (.int 6 t)) (k_NO_INSTANCE : ∃ t, mg "NO_INSTANCE" = some (.int 11 t)) (k_BAD_ARGUMENT : ∃ t, mg "BAD_ARGUMENT" = some (.int 22 t)) (k_CONSTRAINTS_FULL : ∃ t, mg "CONSTRAINTS_FULL" = some (.int 28 t)) (k_NOT_THERE : ∃ t, mg "NOT_THERE" = some (.int 33 t)) (k_CREATE : ∃ t, mg "CREATE" = some (.int 0 t)) (b_abs : PySem.W.nsIn K mainGlobals "abs" = some none) (b_len : PySem.W.nsIn K mainGlobals "len" = some none) (b_sum : PySem.W.nsIn K mainGlobals "sum" = some none) (b_min : PySem.W.nsIn K mainGlobals "min" = some none) (b_max : PySem.W.nsIn K mainGlobals "max" = some none) (b_all : PySem.W.nsIn K mainGlobals "all" = some none) (b_tuple : PySem.W.nsIn K mainGlobals "tuple" = some none) (b_list : PySem.W.nsIn K mainGlobals "list" = some none) (b_zip : PySem.W.nsIn K mainGlobals "zip" = some none) (b_enumerate : PySem.W.nsIn K mainGlobals "enumerate" = some none) (b_range : PySem.W.nsIn K mainGlobals "range" = some none) (ops : OpsAt K mg) (shapes : ShapesAt K mg) (dA : DefAt K mg "answers" (top 98) ["calls"]) : Txt K mg CI CC CS CP := { g_Instance := PySem.W.mg_of X G g_Instance, g_Cycle := PySem.W.mg_of X G g_Cycle, g_System := PySem.W.mg_of X G g_System, g_Program := PySem.W.mg_of X G g_Program, c_Instance := c_Instance, c_Cycle := c_Cycle, c_System := c_System, c_Program := c_Program, a_Instance_program := a_Instance_program, a_Instance_cycle := a_Instance_cycle, a_Cycle_think := a_Cycle_think, a_Cycle_customers := a_Cycle_customers, a_Cycle_demands := a_Cycle_demands, a_System_pivot := a_System_pivot, a_System_columns := a_System_columns, a_System_rows := a_System_rows, a_Program_width := a_Program_width, a_Program_rows := a_Program_rows, a_Program_goal := a_Program_goal, i_Instance := i_Instance, i_Cycle := i_Cycle, i_System := i_System, i_Program := i_Program, m_System_reduced := m_System_reduced, m_System_cleared := m_System_cleared, m_System_with_equation := m_System_with_equation, m_System_solution := m_System_solution, d_is_variables := d_is_variables, d_is_coefficient := d_is_coefficient, d_are_coefficients := d_are_coefficients, d_is_vector := d_is_vector, d_are_demands := d_are_demands, d_is_cycle := d_is_cycle, d_is_most := d_is_most, d_dot := d_dot, d_greatest_divisor := d_greatest_divisor, d_lowest := d_lowest, d_lowest_point := d_lowest_point, d_point_of := d_point_of, d_fractions_of := d_fractions_of, d_value_of := d_value_of, d_exceeds := d_exceeds, d_comes_before := d_comes_before, d_first_of := d_first_of, d_best_of := d_best_of, d_smaller := d_smaller, d_asymptotic_bounds := d_asymptotic_bounds, d_balanced_bounds := d_balanced_bounds, d_exact_throughputs := d_exact_throughputs, d_saturation_of := d_saturation_of, d_first_filled := d_first_filled, d_keeps_to := d_keeps_to, d_sign_rows := d_sign_rows, d_search_corners := d_search_corners, d_corners_from := d_corners_from, d_corners_of := d_corners_of, d_cone_of := d_cone_of, d_rays_of := d_rays_of, d_gains := d_gains, d_improving_rays_of := d_improving_rays_of, d_is_improving := d_is_improving, d_dual_of := d_dual_of, d_proven_bound_of := d_proven_bound_of, d_status_of := d_status_of, d_refusal := d_refusal, d_create := d_create, d_add_constraint := d_add_constraint, d_remove_constraint := d_remove_constraint, d_set_objective := d_set_objective, d_set_cycle := d_set_cycle, d_status := d_status, d_optimum := d_optimum, d_multipliers := d_multipliers, d_refutation := d_refutation, d_ray := d_ray, d_corners := d_corners, d_is_feasible := d_is_feasible, d_slack := d_slack, d_check_bound := d_check_bound, d_check_refutation := d_check_refutation, d_check_ray := d_check_ray, d_check_optimum := d_check_optimum, d_asymptotic := d_asymptotic, d_balanced := d_balanced, d_exact := d_exact, d_saturation := d_saturation, d_exact_curve := d_exact_curve, d_summary := d_summary, d_answer_of := d_answer_of, d_read_rows := d_read_rows, d_read_calls := d_read_calls, k_MOST_VARIABLES := k_MOST_VARIABLES, k_MOST_CONSTRAINTS := k_MOST_CONSTRAINTS, k_GREATEST_COEFFICIENT := k_GREATEST_COEFFICIENT, k_GREATEST_THINK := k_GREATEST_THINK, k_MOST_CUSTOMERS := k_MOST_CUSTOMERS, k_MOST_QUEUES := k_MOST_QUEUES, k_GREATEST_DEMAND := k_GREATEST_DEMAND, k_GREATEST_MOST := k_GREATEST_MOST, k_OPTIMAL := k_OPTIMAL, k_INFEASIBLE := k_INFEASIBLE, k_UNBOUNDED := k_UNBOUNDED, k_NO_CONSTRAINT := k_NO_CONSTRAINT, k_NO_CYCLE := k_NO_CYCLE, k_NO_INSTANCE := k_NO_INSTANCE, k_BAD_ARGUMENT := k_BAD_ARGUMENT, k_CONSTRAINTS_FULL := k_CONSTRAINTS_FULL, k_NOT_THERE := k_NOT_THERE, k_CREATE := k_CREATE, b_abs := PySem.W.mg_none_of X G b_abs, b_len := PySem.W.mg_none_of X G b_len, b_sum := PySem.W.mg_none_of X G b_sum, b_min := PySem.W.mg_none_of X G b_min, b_max := PySem.W.mg_none_of X G b_max, b_all := PySem.W.mg_none_of X G b_all, b_tuple := PySem.W.mg_none_of X G b_tuple, b_list := PySem.W.mg_none_of X G b_list, b_zip := PySem.W.mg_none_of X G b_zip, b_enumerate := PySem.W.mg_none_of X G b_enumerate, b_range := PySem.W.mg_none_of X G b_range, ops := ops, shapes := shapes, d_answers := dA }
end
end WK

set_option maxHeartbeats 0
open PySem PySem.W PyProof.Rows
theorem PySem.Challenge.cw_cornerbounds_s01_answers_holds : PySem.Challenge.rw_cornerbounds_s01_answers.Holds := by
  w_on; k_headS; (case hw => exact ⟨[.list [.int 5]], by decide +kernel, by decide +kernel⟩)
  k_fillS
  refine L2.walk_specK (r := PySem.Challenge.rw_cornerbounds_s01_answers) (k := 30) (CX := L2.CX0) (ps := ["calls"]) (sp := WK.SpFin) (by decide +kernel) rfl rfl ⟨rfl, by decide, by decide⟩ (fun w h Y => PySem.W.kIn_of Y) ?F WK.fin_S (fun _ _ _ _ z => z)
  intro w mg fa h Y KX G hmg
  refine' WK.mk_fin KX G hmg ?fa ?fl ?fc ?fk (WK.mk_txt KX G ?g_Instance ?g_Cycle ?g_System ?g_Program ?c_Instance ?c_Cycle ?c_System ?c_Program ?a_Instance_program ?a_Instance_cycle ?a_Cycle_think ?a_Cycle_customers ?a_Cycle_demands ?a_System_pivot ?a_System_columns ?a_System_rows ?a_Program_width ?a_Program_rows ?a_Program_goal ?i_Instance ?i_Cycle ?i_System ?i_Program ?m_System_reduced ?m_System_cleared ?m_System_with_equation ?m_System_solution ?d_is_variables ?d_is_coefficient ?d_are_coefficients ?d_is_vector ?d_are_demands ?d_is_cycle ?d_is_most ?d_dot ?d_greatest_divisor ?d_lowest ?d_lowest_point ?d_point_of ?d_fractions_of ?d_value_of ?d_exceeds ?d_comes_before ?d_first_of ?d_best_of ?d_smaller ?d_asymptotic_bounds ?d_balanced_bounds ?d_exact_throughputs ?d_saturation_of ?d_first_filled ?d_keeps_to ?d_sign_rows ?d_search_corners ?d_corners_from ?d_corners_of ?d_cone_of ?d_rays_of ?d_gains ?d_improving_rays_of ?d_is_improving ?d_dual_of ?d_proven_bound_of ?d_status_of ?d_refusal ?d_create ?d_add_constraint ?d_remove_constraint ?d_set_objective ?d_set_cycle ?d_status ?d_optimum ?d_multipliers ?d_refutation ?d_ray ?d_corners ?d_is_feasible ?d_slack ?d_check_bound ?d_check_refutation ?d_check_ray ?d_check_optimum ?d_asymptotic ?d_balanced ?d_exact ?d_saturation ?d_exact_curve ?d_summary ?d_answer_of ?d_read_rows ?d_read_calls ?k_MOST_VARIABLES ?k_MOST_CONSTRAINTS ?k_GREATEST_COEFFICIENT ?k_GREATEST_THINK ?k_MOST_CUSTOMERS ?k_MOST_QUEUES ?k_GREATEST_DEMAND ?k_GREATEST_MOST ?k_OPTIMAL ?k_INFEASIBLE ?k_UNBOUNDED ?k_NO_CONSTRAINT ?k_NO_CYCLE ?k_NO_INSTANCE ?k_BAD_ARGUMENT ?k_CONSTRAINTS_FULL ?k_NOT_THERE ?k_CREATE ?b_abs ?b_len ?b_sum ?b_min ?b_max ?b_all ?b_tuple ?b_list ?b_zip ?b_enumerate ?b_range ?ops ?shapes (WK.mk_answers KX G ?fa ?fl ?fc ?fk))
  (case fa => k_is); (case fl => k_is); (case fc => k_is); (case fk => k_is)
  (case g_Instance => k_is)
  (case g_Cycle => k_is)
  (case g_System => k_is)
  (case g_Program => k_is)
  (case c_Instance =>
    refine' WK.mk_cls ?pg ?hd ?po ?sa
    (case pg => k_is); (case hd => k_is); (case po => k_is); (case sa => k_is))
  (case c_Cycle =>
    refine' WK.mk_cls ?pg ?hd ?po ?sa
    (case pg => k_is); (case hd => k_is); (case po => k_is); (case sa => k_is))
  (case c_System =>
    refine' WK.mk_cls ?pg ?hd ?po ?sa
    (case pg => k_is); (case hd => k_is); (case po => k_is); (case sa => k_is))
  (case c_Program =>
    refine' WK.mk_cls ?pg ?hd ?po ?sa
    (case pg => k_is); (case hd => k_is); (case po => k_is); (case sa => k_is))
  (case a_Instance_program => k_is)
  (case a_Instance_cycle => k_is)
  (case a_Cycle_think => k_is)
  (case a_Cycle_customers => k_is)
  (case a_Cycle_demands => k_is)
  (case a_System_pivot => k_is)
  (case a_System_columns => k_is)
  (case a_System_rows => k_is)
  (case a_Program_width => k_is)
  (case a_Program_rows => k_is)
  (case a_Program_goal => k_is)
  (case i_Instance =>
    refine' WK.mki_Instance ?mk ?a ?i ?kc ?l ?c ?k
    (case mk => k_is); (case a => k_is); (case i => k_is); (case kc => k_is); (case l => k_is); (case c => k_is); (case k => k_is))
  (case i_Cycle =>
    refine' WK.mki_Cycle ?mk ?a ?i ?kc ?l ?c ?k
    (case mk => k_is); (case a => k_is); (case i => k_is); (case kc => k_is); (case l => k_is); (case c => k_is); (case k => k_is))
  (case i_System =>
    refine' WK.mki_System ?mk ?a ?i ?kc ?l ?c ?k
    (case mk => k_is); (case a => k_is); (case i => k_is); (case kc => k_is); (case l => k_is); (case c => k_is); (case k => k_is))
  (case i_Program =>
    refine' WK.mki_Program ?mk ?a ?i ?kc ?l ?c ?k
    (case mk => k_is); (case a => k_is); (case i => k_is); (case kc => k_is); (case l => k_is); (case c => k_is); (case k => k_is))
  (case m_System_reduced =>
    refine' WK.mkm_System_reduced ?a ?i ?l ?c ?k
    (case a => k_is); (case i => k_is); (case l => k_is); (case c => k_is); (case k => k_is))
  (case m_System_cleared =>
    refine' WK.mkm_System_cleared ?a ?i ?l ?c ?k
    (case a => k_is); (case i => k_is); (case l => k_is); (case c => k_is); (case k => k_is))
  (case m_System_with_equation =>
    refine' WK.mkm_System_with_equation ?a ?i ?l ?c ?k
    (case a => k_is); (case i => k_is); (case l => k_is); (case c => k_is); (case k => k_is))
  (case m_System_solution =>
    refine' WK.mkm_System_solution ?a ?i ?l ?c ?k
    (case a => k_is); (case i => k_is); (case l => k_is); (case c => k_is); (case k => k_is))
  (case d_is_variables =>
    refine' WK.mk_is_variables KX G ?a ?l ?c ?k
    (case a => k_is); (case l => k_is); (case c => k_is); (case k => k_is))
  (case d_is_coefficient =>
    refine' WK.mk_is_coefficient KX G ?a ?l ?c ?k
    (case a => k_is); (case l => k_is); (case c => k_is); (case k => k_is))
  (case d_are_coefficients =>
    refine' WK.mk_are_coefficients KX G ?a ?l ?c ?k
    (case a => k_is); (case l => k_is); (case c => k_is); (case k => k_is))
  (case d_is_vector =>
    refine' WK.mk_is_vector KX G ?a ?l ?c ?k
    (case a => k_is); (case l => k_is); (case c => k_is); (case k => k_is))
  (case d_are_demands =>
    refine' WK.mk_are_demands KX G ?a ?l ?c ?k
    (case a => k_is); (case l => k_is); (case c => k_is); (case k => k_is))
  (case d_is_cycle =>
    refine' WK.mk_is_cycle KX G ?a ?l ?c ?k
    (case a => k_is); (case l => k_is); (case c => k_is); (case k => k_is))
  (case d_is_most =>
    refine' WK.mk_is_most KX G ?a ?l ?c ?k
    (case a => k_is); (case l => k_is); (case c => k_is); (case k => k_is))
  (case d_dot =>
    refine' WK.mk_dot KX G ?a ?l ?c ?k
    (case a => k_is); (case l => k_is); (case c => k_is); (case k => k_is))
  (case d_greatest_divisor =>
    refine' WK.mk_greatest_divisor KX G ?a ?l ?c ?k
    (case a => k_is); (case l => k_is); (case c => k_is); (case k => k_is))
  (case d_lowest =>
    refine' WK.mk_lowest KX G ?a ?l ?c ?k
    (case a => k_is); (case l => k_is); (case c => k_is); (case k => k_is))
  (case d_lowest_point =>
    refine' WK.mk_lowest_point KX G ?a ?l ?c ?k
    (case a => k_is); (case l => k_is); (case c => k_is); (case k => k_is))
  (case d_point_of =>
    refine' WK.mk_point_of KX G ?a ?l ?c ?k
    (case a => k_is); (case l => k_is); (case c => k_is); (case k => k_is))
  (case d_fractions_of =>
    refine' WK.mk_fractions_of KX G ?a ?l ?c ?k
    (case a => k_is); (case l => k_is); (case c => k_is); (case k => k_is))
  (case d_value_of =>
    refine' WK.mk_value_of KX G ?a ?l ?c ?k
    (case a => k_is); (case l => k_is); (case c => k_is); (case k => k_is))
  (case d_exceeds =>
    refine' WK.mk_exceeds KX G ?a ?l ?c ?k
    (case a => k_is); (case l => k_is); (case c => k_is); (case k => k_is))
  (case d_comes_before =>
    refine' WK.mk_comes_before KX G ?a ?l ?c ?k
    (case a => k_is); (case l => k_is); (case c => k_is); (case k => k_is))
  (case d_first_of =>
    refine' WK.mk_first_of KX G ?a ?l ?c ?k
    (case a => k_is); (case l => k_is); (case c => k_is); (case k => k_is))
  (case d_best_of =>
    refine' WK.mk_best_of KX G ?a ?l ?c ?k
    (case a => k_is); (case l => k_is); (case c => k_is); (case k => k_is))
  (case d_smaller =>
    refine' WK.mk_smaller KX G ?a ?l ?c ?k
    (case a => k_is); (case l => k_is); (case c => k_is); (case k => k_is))
  (case d_asymptotic_bounds =>
    refine' WK.mk_asymptotic_bounds KX G ?a ?l ?c ?k
    (case a => k_is); (case l => k_is); (case c => k_is); (case k => k_is))
  (case d_balanced_bounds =>
    refine' WK.mk_balanced_bounds KX G ?a ?l ?c ?k
    (case a => k_is); (case l => k_is); (case c => k_is); (case k => k_is))
  (case d_exact_throughputs =>
    refine' WK.mk_exact_throughputs KX G ?a ?l ?c ?k
    (case a => k_is); (case l => k_is); (case c => k_is); (case k => k_is))
  (case d_saturation_of =>
    refine' WK.mk_saturation_of KX G ?a ?l ?c ?k
    (case a => k_is); (case l => k_is); (case c => k_is); (case k => k_is))
  (case d_first_filled =>
    refine' WK.mk_first_filled KX G ?a ?l ?c ?k
    (case a => k_is); (case l => k_is); (case c => k_is); (case k => k_is))
  (case d_keeps_to =>
    refine' WK.mk_keeps_to KX G ?a ?l ?c ?k
    (case a => k_is); (case l => k_is); (case c => k_is); (case k => k_is))
  (case d_sign_rows =>
    refine' WK.mk_sign_rows KX G ?a ?l ?c ?k
    (case a => k_is); (case l => k_is); (case c => k_is); (case k => k_is))
  (case d_search_corners =>
    refine' WK.mk_search_corners KX G ?a ?l ?c ?k
    (case a => k_is); (case l => k_is); (case c => k_is); (case k => k_is))
  (case d_corners_from =>
    refine' WK.mk_corners_from KX G ?a ?l ?c ?k
    (case a => k_is); (case l => k_is); (case c => k_is); (case k => k_is))
  (case d_corners_of =>
    refine' WK.mk_corners_of KX G ?a ?l ?c ?k
    (case a => k_is); (case l => k_is); (case c => k_is); (case k => k_is))
  (case d_cone_of =>
    refine' WK.mk_cone_of KX G ?a ?l ?c ?k
    (case a => k_is); (case l => k_is); (case c => k_is); (case k => k_is))
  (case d_rays_of =>
    refine' WK.mk_rays_of KX G ?a ?l ?c ?k
    (case a => k_is); (case l => k_is); (case c => k_is); (case k => k_is))
  (case d_gains =>
    refine' WK.mk_gains KX G ?a ?l ?c ?k
    (case a => k_is); (case l => k_is); (case c => k_is); (case k => k_is))
  (case d_improving_rays_of =>
    refine' WK.mk_improving_rays_of KX G ?a ?l ?c ?k
    (case a => k_is); (case l => k_is); (case c => k_is); (case k => k_is))
  (case d_is_improving =>
    refine' WK.mk_is_improving KX G ?a ?l ?c ?k
    (case a => k_is); (case l => k_is); (case c => k_is); (case k => k_is))
  (case d_dual_of =>
    refine' WK.mk_dual_of KX G ?a ?l ?c ?k
    (case a => k_is); (case l => k_is); (case c => k_is); (case k => k_is))
  (case d_proven_bound_of =>
    refine' WK.mk_proven_bound_of KX G ?a ?l ?c ?k
    (case a => k_is); (case l => k_is); (case c => k_is); (case k => k_is))
  (case d_status_of =>
    refine' WK.mk_status_of KX G ?a ?l ?c ?k
    (case a => k_is); (case l => k_is); (case c => k_is); (case k => k_is))
  (case d_refusal =>
    refine' WK.mk_refusal KX G ?a ?l ?c ?k
    (case a => k_is); (case l => k_is); (case c => k_is); (case k => k_is))
  (case d_create =>
    refine' WK.mk_create KX G ?a ?l ?c ?k
    (case a => k_is); (case l => k_is); (case c => k_is); (case k => k_is))
  (case d_add_constraint =>
    refine' WK.mk_add_constraint KX G ?a ?l ?c ?k
    (case a => k_is); (case l => k_is); (case c => k_is); (case k => k_is))
  (case d_remove_constraint =>
    refine' WK.mk_remove_constraint KX G ?a ?l ?c ?k
    (case a => k_is); (case l => k_is); (case c => k_is); (case k => k_is))
  (case d_set_objective =>
    refine' WK.mk_set_objective KX G ?a ?l ?c ?k
    (case a => k_is); (case l => k_is); (case c => k_is); (case k => k_is))
  (case d_set_cycle =>
    refine' WK.mk_set_cycle KX G ?a ?l ?c ?k
    (case a => k_is); (case l => k_is); (case c => k_is); (case k => k_is))
  (case d_status =>
    refine' WK.mk_status KX G ?a ?l ?c ?k
    (case a => k_is); (case l => k_is); (case c => k_is); (case k => k_is))
  (case d_optimum =>
    refine' WK.mk_optimum KX G ?a ?l ?c ?k
    (case a => k_is); (case l => k_is); (case c => k_is); (case k => k_is))
  (case d_multipliers =>
    refine' WK.mk_multipliers KX G ?a ?l ?c ?k
    (case a => k_is); (case l => k_is); (case c => k_is); (case k => k_is))
  (case d_refutation =>
    refine' WK.mk_refutation KX G ?a ?l ?c ?k
    (case a => k_is); (case l => k_is); (case c => k_is); (case k => k_is))
  (case d_ray =>
    refine' WK.mk_ray KX G ?a ?l ?c ?k
    (case a => k_is); (case l => k_is); (case c => k_is); (case k => k_is))
  (case d_corners =>
    refine' WK.mk_corners KX G ?a ?l ?c ?k
    (case a => k_is); (case l => k_is); (case c => k_is); (case k => k_is))
  (case d_is_feasible =>
    refine' WK.mk_is_feasible KX G ?a ?l ?c ?k
    (case a => k_is); (case l => k_is); (case c => k_is); (case k => k_is))
  (case d_slack =>
    refine' WK.mk_slack KX G ?a ?l ?c ?k
    (case a => k_is); (case l => k_is); (case c => k_is); (case k => k_is))
  (case d_check_bound =>
    refine' WK.mk_check_bound KX G ?a ?l ?c ?k
    (case a => k_is); (case l => k_is); (case c => k_is); (case k => k_is))
  (case d_check_refutation =>
    refine' WK.mk_check_refutation KX G ?a ?l ?c ?k
    (case a => k_is); (case l => k_is); (case c => k_is); (case k => k_is))
  (case d_check_ray =>
    refine' WK.mk_check_ray KX G ?a ?l ?c ?k
    (case a => k_is); (case l => k_is); (case c => k_is); (case k => k_is))
  (case d_check_optimum =>
    refine' WK.mk_check_optimum KX G ?a ?l ?c ?k
    (case a => k_is); (case l => k_is); (case c => k_is); (case k => k_is))
  (case d_asymptotic =>
    refine' WK.mk_asymptotic KX G ?a ?l ?c ?k
    (case a => k_is); (case l => k_is); (case c => k_is); (case k => k_is))
  (case d_balanced =>
    refine' WK.mk_balanced KX G ?a ?l ?c ?k
    (case a => k_is); (case l => k_is); (case c => k_is); (case k => k_is))
  (case d_exact =>
    refine' WK.mk_exact KX G ?a ?l ?c ?k
    (case a => k_is); (case l => k_is); (case c => k_is); (case k => k_is))
  (case d_saturation =>
    refine' WK.mk_saturation KX G ?a ?l ?c ?k
    (case a => k_is); (case l => k_is); (case c => k_is); (case k => k_is))
  (case d_exact_curve =>
    refine' WK.mk_exact_curve KX G ?a ?l ?c ?k
    (case a => k_is); (case l => k_is); (case c => k_is); (case k => k_is))
  (case d_summary =>
    refine' WK.mk_summary KX G ?a ?l ?c ?k
    (case a => k_is); (case l => k_is); (case c => k_is); (case k => k_is))
  (case d_answer_of =>
    refine' WK.mk_answer_of KX G ?a ?l ?c ?k
    (case a => k_is); (case l => k_is); (case c => k_is); (case k => k_is))
  (case d_read_rows =>
    refine' WK.mk_read_rows KX G ?a ?l ?c ?k
    (case a => k_is); (case l => k_is); (case c => k_is); (case k => k_is))
  (case d_read_calls =>
    refine' WK.mk_read_calls KX G ?a ?l ?c ?k
    (case a => k_is); (case l => k_is); (case c => k_is); (case k => k_is))
  (case k_MOST_VARIABLES =>
    refine' WK.mk_int KX G ?a
    (case a => k_is))
  (case k_MOST_CONSTRAINTS =>
    refine' WK.mk_int KX G ?a
    (case a => k_is))
  (case k_GREATEST_COEFFICIENT =>
    refine' WK.mk_int KX G ?a
    (case a => k_is))
  (case k_GREATEST_THINK =>
    refine' WK.mk_int KX G ?a
    (case a => k_is))
  (case k_MOST_CUSTOMERS =>
    refine' WK.mk_int KX G ?a
    (case a => k_is))
  (case k_MOST_QUEUES =>
    refine' WK.mk_int KX G ?a
    (case a => k_is))
  (case k_GREATEST_DEMAND =>
    refine' WK.mk_int KX G ?a
    (case a => k_is))
  (case k_GREATEST_MOST =>
    refine' WK.mk_int KX G ?a
    (case a => k_is))
  (case k_OPTIMAL =>
    refine' WK.mk_int KX G ?a
    (case a => k_is))
  (case k_INFEASIBLE =>
    refine' WK.mk_int KX G ?a
    (case a => k_is))
  (case k_UNBOUNDED =>
    refine' WK.mk_int KX G ?a
    (case a => k_is))
  (case k_NO_CONSTRAINT =>
    refine' WK.mk_int KX G ?a
    (case a => k_is))
  (case k_NO_CYCLE =>
    refine' WK.mk_int KX G ?a
    (case a => k_is))
  (case k_NO_INSTANCE =>
    refine' WK.mk_int KX G ?a
    (case a => k_is))
  (case k_BAD_ARGUMENT =>
    refine' WK.mk_int KX G ?a
    (case a => k_is))
  (case k_CONSTRAINTS_FULL =>
    refine' WK.mk_int KX G ?a
    (case a => k_is))
  (case k_NOT_THERE =>
    refine' WK.mk_int KX G ?a
    (case a => k_is))
  (case k_CREATE =>
    refine' WK.mk_int KX G ?a
    (case a => k_is))
  (case b_abs => k_is)
  (case b_len => k_is)
  (case b_sum => k_is)
  (case b_min => k_is)
  (case b_max => k_is)
  (case b_all => k_is)
  (case b_tuple => k_is)
  (case b_list => k_is)
  (case b_zip => k_is)
  (case b_enumerate => k_is)
  (case b_range => k_is)
  (case ops =>
    refine' WK.mk_ops KX G ?a ?l ?ks ?o
    (case a => k_is); (case l => k_is); (case ks => rfl)
    (case o =>
      refine' (WK.allO_cons ?a0 ?b0 (WK.allO_cons ?a1 ?b1 (WK.allO_cons ?a2 ?b2 (WK.allO_cons ?a3 ?b3 (WK.allO_cons ?a4 ?b4 (WK.allO_cons ?a5 ?b5 (WK.allO_cons ?a6 ?b6 (WK.allO_cons ?a7 ?b7 (WK.allO_cons ?a8 ?b8 (WK.allO_cons ?a9 ?b9 (WK.allO_cons ?a10 ?b10 (WK.allO_cons ?a11 ?b11 (WK.allO_cons ?a12 ?b12 (WK.allO_cons ?a13 ?b13 (WK.allO_cons ?a14 ?b14 (WK.allO_cons ?a15 ?b15 (WK.allO_cons ?a16 ?b16 (WK.allO_cons ?a17 ?b17 (WK.allO_cons ?a18 ?b18 (WK.allO_cons ?a19 ?b19 (WK.allO_cons ?a20 ?b20 (WK.allO_cons ?a21 ?b21 (WK.allO_cons ?a22 ?b22 WK.allO_nil)))))))))))))))))))))))
      (case a0 => k_is); (case b0 => rfl)
      (case a1 => k_is); (case b1 => rfl)
      (case a2 => k_is); (case b2 => rfl)
      (case a3 => k_is); (case b3 => rfl)
      (case a4 => k_is); (case b4 => rfl)
      (case a5 => k_is); (case b5 => rfl)
      (case a6 => k_is); (case b6 => rfl)
      (case a7 => k_is); (case b7 => rfl)
      (case a8 => k_is); (case b8 => rfl)
      (case a9 => k_is); (case b9 => rfl)
      (case a10 => k_is); (case b10 => rfl)
      (case a11 => k_is); (case b11 => rfl)
      (case a12 => k_is); (case b12 => rfl)
      (case a13 => k_is); (case b13 => rfl)
      (case a14 => k_is); (case b14 => rfl)
      (case a15 => k_is); (case b15 => rfl)
      (case a16 => k_is); (case b16 => rfl)
      (case a17 => k_is); (case b17 => rfl)
      (case a18 => k_is); (case b18 => rfl)
      (case a19 => k_is); (case b19 => rfl)
      (case a20 => k_is); (case b20 => rfl)
      (case a21 => k_is); (case b21 => rfl)
      (case a22 => k_is); (case b22 => rfl)))
  (case shapes =>
    refine' WK.mk_shapes (bs := [_, _, _, _, _, _, _, _, _, _, _, _, _, _, _, _, _, _, _, _, _, _, _]) KX G ?a ?l ?hus (WK.allS_cons ?s0 (WK.allS_cons ?s1 (WK.allS_cons ?s2 (WK.allS_cons ?s3 (WK.allS_cons ?s4 (WK.allS_cons ?s5 (WK.allS_cons ?s6 (WK.allS_cons ?s7 (WK.allS_cons ?s8 (WK.allS_cons ?s9 (WK.allS_cons ?s10 (WK.allS_cons ?s11 (WK.allS_cons ?s12 (WK.allS_cons ?s13 (WK.allS_cons ?s14 (WK.allS_cons ?s15 (WK.allS_cons ?s16 (WK.allS_cons ?s17 (WK.allS_cons ?s18 (WK.allS_cons ?s19 (WK.allS_cons ?s20 (WK.allS_cons ?s21 (WK.allS_cons ?s22 WK.allS_nil)))))))))))))))))))))))
    (case a => k_is); (case l => k_is); (case hus => rfl)
    (case s0 => k_is)
    (case s1 => k_is)
    (case s2 => k_is)
    (case s3 => k_is)
    (case s4 => k_is)
    (case s5 => k_is)
    (case s6 => k_is)
    (case s7 => k_is)
    (case s8 => k_is)
    (case s9 => k_is)
    (case s10 => k_is)
    (case s11 => k_is)
    (case s12 => k_is)
    (case s13 => k_is)
    (case s14 => k_is)
    (case s15 => k_is)
    (case s16 => k_is)
    (case s17 => k_is)
    (case s18 => k_is)
    (case s19 => k_is)
    (case s20 => k_is)
    (case s21 => k_is)
    (case s22 => k_is))
