import PyProof.Rows.All
import Wide.All
import OpenK.AllK
import Wide.FinOn
import Open.SpecLaws
import KE.OsGo
import TimeSpec
import PyWrtime
import PyWideLaws
import HandS.ForSpec
import HandS.Comp
import HandS.Iter
import HandS.SortInts
import HandS.Dict
import HandS.WordsDict
import HandS.Conv
import HandS.TupLe
import PySem.Challenge.RW_calendarclocks_s01_answers
set_option maxHeartbeats 1000000
namespace Cc
/-! ## The calendar: the program's functions in plain Lean, and that they are the specification's -/
def TBL : List Int := [0, 31, 59, 90, 120, 151, 181, 212, 243, 273, 304, 334, 365]
/-- days_before_month -/
def dbm (y m : Int) : Int := TBL.getD (m - 1).toNat 0 + (if 2 < m ∧ Tm.isLeap y = true then 1 else 0)
/-- month_length -/
def mlen (y m : Int) : Int := dbm y (m + 1) - dbm y m
/-- first_of_year -/
def foy (y : Int) : Int := (y - 1) * 365 + ((y - 1) / 4 - (y - 1) / 100 + (y - 1) / 400) - 719162
/-- day_number -/
def dayNum (y m d : Int) : Int := foy y + dbm y m + d - 1
/-- is_date -/
def isDateM (y m d : Int) : Bool := if 1 ≤ y ∧ y ≤ 9999 ∧ 1 ≤ m ∧ m ≤ 12 then decide (1 ≤ d ∧ d ≤ mlen y m) else false
/-- year_of -/
def yearM (n : Int) : Int :=
  let N := n + 719162
  let r := N % 146097
  let h := if 3 < r / 36524 then 3 else r / 36524
  let r2 := r - h * 36524
  let r3 := r2 % 1461
  let o := if 3 < r3 / 365 then 3 else r3 / 365
  N / 146097 * 400 + h * 100 + r2 / 1461 * 4 + o + 1

theorem m13 {m : Int} (h1 : 1 ≤ m) (h2 : m ≤ 13) : m = 1 ∨ m = 2 ∨ m = 3 ∨ m = 4 ∨ m = 5 ∨ m = 6 ∨ m = 7 ∨ m = 8 ∨ m = 9 ∨ m = 10 ∨ m = 11 ∨ m = 12 ∨ m = 13 := by omega
theorem dbm_eq {y m : Int} (h1 : 1 ≤ m) (h2 : m ≤ 13) : dbm y m = (Tm.monthsBefore y m.toNat : Int) := by
  rcases m13 h1 h2 with rfl|rfl|rfl|rfl|rfl|rfl|rfl|rfl|rfl|rfl|rfl|rfl|rfl <;>
    cases h : Tm.isLeap y <;> simp [dbm, TBL, Tm.monthsBefore, Tm.monthDays, h]
theorem mlen_eq {y m : Int} (h1 : 1 ≤ m) (h2 : m ≤ 12) : mlen y m = (Tm.monthDays y m.toNat : Int) := by
  unfold mlen
  rcases m13 h1 (by omega) with rfl|rfl|rfl|rfl|rfl|rfl|rfl|rfl|rfl|rfl|rfl|rfl|rfl <;>
    first
    | (exfalso; omega)
    | (cases h : Tm.isLeap y <;> simp [dbm, TBL, Tm.monthDays, h])
theorem mlen_range {y m : Int} (h1 : 1 ≤ m) (h2 : m ≤ 12) : 28 ≤ mlen y m ∧ mlen y m ≤ 31 := by
  unfold mlen
  rcases m13 h1 (by omega) with rfl|rfl|rfl|rfl|rfl|rfl|rfl|rfl|rfl|rfl|rfl|rfl|rfl <;>
    first
    | (exfalso; omega)
    | (cases h : Tm.isLeap y <;> simp [dbm, TBL, h])
theorem dbm_range {y m : Int} (h1 : 1 ≤ m) (h2 : m ≤ 13) : 28 * (m - 1) ≤ dbm y m ∧ dbm y m ≤ 31 * (m - 1) := by
  rcases m13 h1 (by omega) with rfl|rfl|rfl|rfl|rfl|rfl|rfl|rfl|rfl|rfl|rfl|rfl|rfl <;>
    (cases h : Tm.isLeap y <;> simp [dbm, TBL, h])
theorem dbm_one (y : Int) : dbm y 1 = 0 := by simp [dbm, TBL]
theorem dbm_13 (y : Int) : dbm y 13 = foy (y + 1) - foy y := by
  have : dbm y 13 = 365 + (if Tm.isLeap y = true then 1 else 0) := by simp [dbm, TBL]
  rw [this]
  unfold foy Tm.isLeap
  by_cases a : y % 4 = 0 <;> by_cases b : y % 100 = 0 <;> by_cases c : y % 400 = 0 <;> simp [a, b, c] <;> omega
theorem foy_eq (y : Int) : foy y = Tm.dayOf y 1 1 := by
  unfold foy Tm.dayOf Tm.yearDays Tm.EPOCH
  simp only [Tm.monthsBefore]
  rw [Int.fdiv_eq_ediv_of_nonneg _ (by decide), Int.fdiv_eq_ediv_of_nonneg _ (by decide), Int.fdiv_eq_ediv_of_nonneg _ (by decide)]
  omega
theorem dayOf_eq (y : Int) (m d : Nat) : Tm.dayOf y m d = foy y + (Tm.monthsBefore y m : Int) + (d : Int) - 1 := by
  rw [foy_eq]
  unfold Tm.dayOf
  simp only [Tm.monthsBefore]
  omega
theorem dayNum_eq {y m d : Int} (h1 : 1 ≤ m) (h2 : m ≤ 13) (h3 : 0 ≤ d) : dayNum y m d = Tm.dayOf y m.toNat d.toNat := by
  rw [dayOf_eq, dayNum, dbm_eq h1 h2]
  omega
theorem foy_lt {a b : Int} (h : a < b) : foy a < foy b := by
  unfold foy
  omega
theorem isDate_eq (y m d : Int) : isDateM y m d = (Tm.dateIn y m d).isSome := by
  unfold isDateM Tm.dateIn Tm.isDate Tm.YEARS
  by_cases h : 1 ≤ y ∧ y ≤ 9999 ∧ 1 ≤ m ∧ m ≤ 12
  · rw [if_pos h]
    rw [mlen_eq h.2.2.1 h.2.2.2]
    by_cases g : 1 ≤ d ∧ d ≤ (Tm.monthDays y m.toNat : Int)
    · rw [decide_eq_true g, if_pos]
      · rfl
      · simp
        omega
    · rw [decide_eq_false g, if_neg]
      · rfl
      · simp
        omega
  · rw [if_neg h, if_neg]
    · rfl
    · simp
      omega
theorem dateIn_some {y m d : Int} (h : isDateM y m d = true) : Tm.dateIn y m d = some (y, m.toNat, d.toNat) := by
  rw [isDate_eq] at h
  unfold Tm.dateIn at h ⊢
  split
  · rfl
  · next q => rw [if_neg q] at h; cases h
theorem dateIn_none {y m d : Int} (h : isDateM y m d = false) : Tm.dateIn y m d = none := by
  rw [isDate_eq] at h
  cases e : Tm.dateIn y m d with
  | none => rfl
  | some x => rw [e] at h; cases h
theorem isDateM_iff {y m d : Int} : isDateM y m d = true ↔ (1 ≤ y ∧ y ≤ 9999) ∧ (1 ≤ m ∧ m ≤ 12) ∧ 1 ≤ d ∧ d ≤ mlen y m := by
  unfold isDateM
  split <;> simp <;> omega
/-- what a year of a day is -/
theorem year_unique {n a b : Int} (ha : foy a ≤ n ∧ n < foy (a + 1)) (hb : foy b ≤ n ∧ n < foy (b + 1)) : a = b := by
  have L : ∀ a b : Int, a ≤ b → foy a ≤ foy b := fun a b h => by
    unfold foy
    omega
  rcases Int.lt_trichotomy a b with h | h | h
  · have := L (a + 1) b h
    omega
  · exact h
  · have := L (b + 1) a h
    omega
theorem yearM_is (n : Int) : foy (yearM n) ≤ n ∧ n < foy (yearM n + 1) := by
  have e : ∀ N q r h r2 f r3 o : Int, N = n + 719162 → q = N / 146097 → r = N % 146097 → h = (if 3 < r / 36524 then 3 else r / 36524) → r2 = r - h * 36524 → f = r2 / 1461 → r3 = r2 % 1461 → o = (if 3 < r3 / 365 then 3 else r3 / 365) →
      foy (q * 400 + h * 100 + f * 4 + o + 1) ≤ n ∧ n < foy (q * 400 + h * 100 + f * 4 + o + 1 + 1) := by
    intro N q r h r2 f r3 o eN eq er eh er2 ef er3 eo
    have H : 0 ≤ h ∧ h ≤ 3 ∧ 0 ≤ r2 ∧ r2 ≤ 36524 ∧ (h < 3 → r2 < 36524) := by
      split at eh <;> omega
    have O : 0 ≤ o ∧ o ≤ 3 ∧ 365 * o ≤ r3 ∧ r3 ≤ 365 * o + 365 ∧ (o < 3 → r3 < 365 * o + 365) := by
      split at eo <;> omega
    have F : 0 ≤ f ∧ f ≤ 24 ∧ r2 = 1461 * f + r3 ∧ 0 ≤ r3 ∧ r3 < 1461 := by omega
    have NN : n = 146097 * q + 36524 * h + r2 - 719162 := by omega
    have d4 : (q * 400 + h * 100 + f * 4 + o) / 4 = 100 * q + 25 * h + f := by omega
    have d100 : (q * 400 + h * 100 + f * 4 + o) / 100 = 4 * q + h := by omega
    have d400 : (q * 400 + h * 100 + f * 4 + o) / 400 = q := by omega
    unfold foy
    have a1 : q * 400 + h * 100 + f * 4 + o + 1 - 1 = q * 400 + h * 100 + f * 4 + o := by omega
    have a2 : q * 400 + h * 100 + f * 4 + o + 1 + 1 - 1 = q * 400 + h * 100 + f * 4 + o + 1 := by omega
    rw [a1, a2, d4, d100, d400]
    clear er ef er3 eo eh eN eq
    refine ⟨by omega, ?_⟩
    by_cases c1 : o = 3
    · subst c1
      by_cases c2 : f = 24
      · subst c2
        by_cases c3 : h = 3
        · subst c3
          have e4 : (q * 400 + 3 * 100 + 24 * 4 + 3 + 1) / 4 = 100 * q + 100 := by omega
          have e100 : (q * 400 + 3 * 100 + 24 * 4 + 3 + 1) / 100 = 4 * q + 4 := by omega
          have e400 : (q * 400 + 3 * 100 + 24 * 4 + 3 + 1) / 400 = q + 1 := by omega
          rw [e4, e100, e400]
          omega
        · have e4 : (q * 400 + h * 100 + 24 * 4 + 3 + 1) / 4 = 100 * q + 25 * h + 25 := by omega
          have e100 : (q * 400 + h * 100 + 24 * 4 + 3 + 1) / 100 = 4 * q + h + 1 := by omega
          have e400 : (q * 400 + h * 100 + 24 * 4 + 3 + 1) / 400 = q := by omega
          rw [e4, e100, e400]
          omega
      · have e4 : (q * 400 + h * 100 + f * 4 + 3 + 1) / 4 = 100 * q + 25 * h + f + 1 := by omega
        have e100 : (q * 400 + h * 100 + f * 4 + 3 + 1) / 100 = 4 * q + h := by omega
        have e400 : (q * 400 + h * 100 + f * 4 + 3 + 1) / 400 = q := by omega
        rw [e4, e100, e400]
        omega
    · have e4 : (q * 400 + h * 100 + f * 4 + o + 1) / 4 = 100 * q + 25 * h + f := by omega
      have e100 : (q * 400 + h * 100 + f * 4 + o + 1) / 100 = 4 * q + h := by omega
      have e400 : (q * 400 + h * 100 + f * 4 + o + 1) / 400 = q := by omega
      rw [e4, e100, e400]
      omega
  exact e _ _ _ _ _ _ _ _ rfl rfl rfl rfl rfl rfl rfl rfl
/-- the specification's year -/
theorem up_is (n : Int) : ∀ (f : Nat) (y : Int), foy y ≤ n → n < foy (y + (f : Int) + 1) → foy (Tm.yearOf.up n f y) ≤ n ∧ n < foy (Tm.yearOf.up n f y + 1)
  | 0, y, h1, h2 => by
    unfold Tm.yearOf.up
    exact ⟨h1, by simpa using h2⟩
  | f + 1, y, h1, h2 => by
    unfold Tm.yearOf.up
    rw [← foy_eq]
    split
    · next h =>
      refine up_is n f (y + 1) h ?_
      have e : y + 1 + (f : Int) + 1 = y + ((f + 1 : Nat) : Int) + 1 := by omega
      rw [e]
      exact h2
    · next h => exact ⟨h1, by omega⟩
theorem yearOf_is {n : Int} (h1 : -719162 ≤ n) (h2 : n ≤ 2932896) : foy (Tm.yearOf n) ≤ n ∧ n < foy (Tm.yearOf n + 1) := by
  unfold Tm.yearOf
  rw [Int.fdiv_eq_ediv_of_nonneg _ (by decide)]
  refine up_is n 40 _ ?_ ?_
  · unfold foy Tm.EPOCH
    omega
  · unfold foy Tm.EPOCH
    omega
theorem yearM_eq {n : Int} (h1 : -719162 ≤ n) (h2 : n ≤ 2932896) : yearM n = Tm.yearOf n := year_unique (yearM_is n) (yearOf_is h1 h2)
theorem yearM_range {n : Int} (h1 : -719162 ≤ n) (h2 : n ≤ 2932896) : 1 ≤ yearM n ∧ yearM n ≤ 9999 := by
  have h := yearM_is n
  have L : ∀ a b : Int, a ≤ b → foy a ≤ foy b := fun a b h => by
    unfold foy
    omega
  refine ⟨?_, ?_⟩
  · by_cases c : 1 ≤ yearM n
    · exact c
    · have := L (yearM n + 1) 1 (by omega)
      have e : foy 1 = -719162 := by decide
      omega
  · by_cases c : yearM n ≤ 9999
    · exact c
    · have := L 10000 (yearM n) (by omega)
      have e : foy 10000 = 2932897 := by decide
      omega
end Cc
set_option maxHeartbeats 1000000
namespace Cc
theorem mb_step (y : Int) (m : Nat) (h : 1 ≤ m) : Tm.monthsBefore y (m + 1) = Tm.monthsBefore y m + Tm.monthDays y m := by
  cases m with
  | zero => omega
  | succ k => simp [Tm.monthsBefore]
theorem mb_mono (y : Int) : ∀ (a b : Nat), 1 ≤ a → a ≤ b → Tm.monthsBefore y a ≤ Tm.monthsBefore y b
  | a, 0, h, g => by omega
  | a, b + 1, h, g => by
    by_cases c : a = b + 1
    · subst c; exact Nat.le_refl _
    · have := mb_mono y a b h (by omega)
      rw [mb_step y b (by omega)]
      omega
theorem filter_lt : ∀ (N m : Nat), m ≤ N → ((List.range N).filter fun j => decide (j < m)).length = m
  | 0, m, h => by simp at h; subst h; rfl
  | N + 1, m, h => by
    rw [List.range_succ, List.filter_append, List.length_append]
    by_cases c : m = N + 1
    · subst c
      have e : ((List.range N).filter fun j => decide (j < N + 1)) = (List.range N).filter fun j => decide (j < N) := by
        apply List.filter_congr
        intro x hx
        have := List.mem_range.mp hx
        rw [decide_eq_true (by omega : x < N + 1), decide_eq_true this]
      rw [e, filter_lt N N (Nat.le_refl _)]
      simp
    · rw [filter_lt N m (by omega)]
      have : ¬ N < m := by omega
      simp [this]
theorem monthOf_is {y k : Int} {m : Nat} (h1 : 1 ≤ m) (h2 : m ≤ 12) (a : (Tm.monthsBefore y m : Int) ≤ k) (b : k < (Tm.monthsBefore y (m + 1) : Int)) : Tm.monthOf y k = m := by
  unfold Tm.monthOf
  have e : ((List.range 12).filter fun (j : Nat) => decide ((Tm.monthsBefore y (j + 1) : Int) ≤ k)) = (List.range 12).filter fun j => decide (j < m) := by
    apply List.filter_congr
    intro x hx
    have hx := List.mem_range.mp hx
    by_cases c : x < m
    · have := mb_mono y (x + 1) m (by omega) (by omega)
      rw [decide_eq_true c, decide_eq_true (by omega)]
    · have := mb_mono y (m + 1) (x + 1) (by omega) (by omega)
      rw [decide_eq_false c, decide_eq_false (by omega)]
  rw [e]
  exact filter_lt 12 m h2
/-- a day's date, by what is found: the year, and the month whose days it lies in -/
theorem dateOf_is {n y m : Int} (hy : foy y ≤ n ∧ n < foy (y + 1)) (h1 : -719162 ≤ n) (h2 : n ≤ 2932896) (m1 : 1 ≤ m) (m2 : m ≤ 12) (a : dbm y m ≤ n - foy y) (b : n - foy y < dbm y (m + 1)) :
    Tm.dateOf n = (y, m.toNat, (n - foy y - dbm y m + 1).toNat) := by
  have e : Tm.yearOf n = y := year_unique (yearOf_is h1 h2) hy
  have em : Tm.monthOf y (n - foy y) = m.toNat := by
    refine monthOf_is (by omega) (by omega) ?_ ?_
    · rw [← dbm_eq m1 (by omega)]; exact a
    · have e2 : m.toNat + 1 = (m + 1).toNat := by omega
      rw [e2, ← dbm_eq (by omega) (by omega)]; exact b
  unfold Tm.dateOf
  simp only [e, ← foy_eq, em, ← dbm_eq m1 (show m ≤ 13 by omega)]
  congr 2
  omega
/-- the month of a day of a year -/
theorem month_there (y k : Int) (h1 : 0 ≤ k) (h2 : k < dbm y 13) : ∃ m, 1 ≤ m ∧ m ≤ 12 ∧ dbm y m ≤ k ∧ k < dbm y (m + 1) := by
  have e := dbm_one y
  by_cases c2 : k < dbm y 2
  · exact ⟨1, by omega, by omega, by omega, c2⟩
  by_cases c3 : k < dbm y 3
  · exact ⟨2, by omega, by omega, by omega, c3⟩
  by_cases c4 : k < dbm y 4
  · exact ⟨3, by omega, by omega, by omega, c4⟩
  by_cases c5 : k < dbm y 5
  · exact ⟨4, by omega, by omega, by omega, c5⟩
  by_cases c6 : k < dbm y 6
  · exact ⟨5, by omega, by omega, by omega, c6⟩
  by_cases c7 : k < dbm y 7
  · exact ⟨6, by omega, by omega, by omega, c7⟩
  by_cases c8 : k < dbm y 8
  · exact ⟨7, by omega, by omega, by omega, c8⟩
  by_cases c9 : k < dbm y 9
  · exact ⟨8, by omega, by omega, by omega, c9⟩
  by_cases c10 : k < dbm y 10
  · exact ⟨9, by omega, by omega, by omega, c10⟩
  by_cases c11 : k < dbm y 11
  · exact ⟨10, by omega, by omega, by omega, c11⟩
  by_cases c12 : k < dbm y 12
  · exact ⟨11, by omega, by omega, by omega, c12⟩
  · exact ⟨12, by omega, by omega, by omega, h2⟩
/-- all that is known of a day's date -/
structure DateIs (n y m d : Int) : Prop where
  y1 : 1 ≤ y
  y2 : y ≤ 9999
  m1 : 1 ≤ m
  m2 : m ≤ 12
  d1 : 1 ≤ d
  d2 : d ≤ mlen y m
  day : dayNum y m d = n
theorem DateIs.inj {n y m d y' m' d' : Int} (a : DateIs n y m d) (b : DateIs n y' m' d') : y = y' ∧ m = m' ∧ d = d' := by
  have f : ∀ {n y m d : Int}, DateIs n y m d → (foy y ≤ n ∧ n < foy (y + 1)) ∧ dbm y m ≤ n - foy y ∧ n - foy y < dbm y (m + 1) := by
    intro n y m d a
    have h := a.day
    have e : dbm y 13 = foy (y + 1) - foy y := dbm_13 y
    have g1 : dbm y (m + 1) = dbm y m + mlen y m := by unfold mlen; omega
    have g2 : dbm y 1 ≤ dbm y m := by
      have := mb_mono y 1 m.toNat (by omega) (by have := a.m1; omega)
      rw [dbm_eq (by omega) (by omega), dbm_eq a.m1 (by have := a.m2; omega)]
      exact Int.ofNat_le.mpr this
    have g3 : dbm y (m + 1) ≤ dbm y 13 := by
      have := mb_mono y (m + 1).toNat 13 (by have := a.m1; omega) (by have := a.m2; omega)
      rw [dbm_eq (by have := a.m1; omega) (by have := a.m2; omega), dbm_eq (by omega) (by omega)]
      exact Int.ofNat_le.mpr this
    rw [dbm_one] at g2
    have := a.d1
    have := a.d2
    unfold dayNum at h
    omega
  obtain ⟨p1, p2, p3⟩ := f a
  obtain ⟨q1, q2, q3⟩ := f b
  have ey := year_unique p1 q1
  subst ey
  have em : m = m' := by
    have u := monthOf_is (y := y) (k := n - foy y) (m := m.toNat) (by have := a.m1; omega) (by have := a.m2; omega)
      (by rw [← dbm_eq a.m1 (by have := a.m2; omega)]; exact p2)
      (by rw [show m.toNat + 1 = (m + 1).toNat by have := a.m1; omega, ← dbm_eq (by have := a.m1; omega) (by have := a.m2; omega)]; exact p3)
    have v := monthOf_is (y := y) (k := n - foy y) (m := m'.toNat) (by have := b.m1; omega) (by have := b.m2; omega)
      (by rw [← dbm_eq b.m1 (by have := b.m2; omega)]; exact q2)
      (by rw [show m'.toNat + 1 = (m' + 1).toNat by have := b.m1; omega, ← dbm_eq (by have := b.m1; omega) (by have := b.m2; omega)]; exact q3)
    have := u.symm.trans v
    have := a.m1
    have := b.m1
    omega
  subst em
  refine ⟨rfl, rfl, ?_⟩
  have := a.day
  have := b.day
  unfold dayNum at *
  omega
theorem dateOf_all {n : Int} (h1 : -719162 ≤ n) (h2 : n ≤ 2932896) : DateIs n (Tm.dateOf n).1 ((Tm.dateOf n).2.1 : Nat) ((Tm.dateOf n).2.2 : Nat) := by
  have hy := yearM_is n
  have hr := yearM_range h1 h2
  obtain ⟨m, m1, m2, a, b⟩ := month_there (yearM n) (n - foy (yearM n)) (by omega) (by rw [dbm_13]; omega)
  rw [dateOf_is hy h1 h2 m1 m2 a b]
  have e : ((m.toNat : Nat) : Int) = m := by omega
  have e2 : (((n - foy (yearM n) - dbm (yearM n) m + 1).toNat : Nat) : Int) = n - foy (yearM n) - dbm (yearM n) m + 1 := by omega
  constructor
  · exact hr.1
  · exact hr.2
  · show 1 ≤ ((m.toNat : Nat) : Int); omega
  · show ((m.toNat : Nat) : Int) ≤ 12; omega
  · show 1 ≤ (((n - foy (yearM n) - dbm (yearM n) m + 1).toNat : Nat) : Int); omega
  · show (((n - foy (yearM n) - dbm (yearM n) m + 1).toNat : Nat) : Int) ≤ mlen (yearM n) ((m.toNat : Nat) : Int)
    rw [e, e2]; unfold mlen; omega
  · show dayNum (yearM n) ((m.toNat : Nat) : Int) (((n - foy (yearM n) - dbm (yearM n) m + 1).toNat : Nat) : Int) = n
    rw [e, e2]; unfold dayNum; omega
/-- a date's day lies in the calendar -/
theorem DateIs.cal {n y m d : Int} (a : DateIs n y m d) : -719162 ≤ n ∧ n ≤ 2932896 := by
  have h := a.day
  have g2 : dbm y 1 ≤ dbm y m := by
    have := mb_mono y 1 m.toNat (by omega) (by have := a.m1; omega)
    rw [dbm_eq (by omega) (by omega), dbm_eq a.m1 (by have := a.m2; omega)]
    exact Int.ofNat_le.mpr this
  have g3 : dbm y (m + 1) ≤ dbm y 13 := by
    have := mb_mono y (m + 1).toNat 13 (by have := a.m1; omega) (by have := a.m2; omega)
    rw [dbm_eq (by have := a.m1; omega) (by have := a.m2; omega), dbm_eq (by omega) (by omega)]
    exact Int.ofNat_le.mpr this
  have g1 : dbm y (m + 1) = dbm y m + mlen y m := by unfold mlen; omega
  rw [dbm_one] at g2
  rw [dbm_13] at g3
  have := a.d1
  have := a.d2
  have L : ∀ a b : Int, a ≤ b → foy a ≤ foy b := fun a b h => by
    unfold foy
    omega
  have l1 := L 1 y a.y1
  have l2 := L (y + 1) 10000 (by have := a.y2; omega)
  have e1 : foy 1 = -719162 := by decide
  have e2 : foy 10000 = 2932897 := by decide
  unfold dayNum at h
  omega
theorem dateOf_of {n y m d : Int} (a : DateIs n y m d) : Tm.dateOf n = (y, m.toNat, d.toNat) := by
  have c := a.cal
  obtain ⟨e1, e2, e3⟩ := a.inj (dateOf_all c.1 c.2)
  refine Prod.ext e1.symm (Prod.ext ?_ ?_)
  · show (Tm.dateOf n).2.1 = m.toNat
    omega
  · show (Tm.dateOf n).2.2 = d.toNat
    omega
/-! ## Weeks -/
def wdM (n : Int) : Int := (n + 3) % 7
theorem wd_eq (n : Int) : wdM n = (Tm.weekday n : Int) := by
  unfold wdM Tm.weekday
  omega
def thu (n : Int) : Int := n - wdM n + 3
theorem thu_cal {n : Int} (h1 : -719162 ≤ n) (h2 : n ≤ 2932896) : -719162 ≤ thu n ∧ thu n ≤ 2932896 := by
  unfold thu wdM
  omega
theorem weekOf_eq {n : Int} (h1 : -719162 ≤ n) (h2 : n ≤ 2932896) : (Tm.weekOf n).1 = yearM (thu n) ∧ ((Tm.weekOf n).2 : Int) = (thu n - foy (yearM (thu n))) / 7 + 1 := by
  have c := thu_cal h1 h2
  have e : n - (Tm.weekday n : Int) + 3 = thu n := by rw [← wd_eq]; rfl
  unfold Tm.weekOf
  simp only [e, ← yearM_eq c.1 c.2, ← foy_eq]
  refine ⟨trivial, ?_⟩
  have := (yearM_is (thu n)).1
  omega
/-! ## The k-th weekday of a month -/
def nthWd (y m k w : Int) : Int :=
  let f := dayNum y m 1
  let d := 1 + (w - wdM f) % 7 + 7 * (k - 1)
  f + (if mlen y m < d then d - 7 else d) - 1
theorem nthWd_eq {y m k w : Int} (m1 : 1 ≤ m) (m2 : m ≤ 12) (k1 : 1 ≤ k) (k2 : k ≤ 5) (w1 : 0 ≤ w) (w2 : w ≤ 6) : nthWd y m k w = Tm.kth y m.toNat k.toNat w.toNat := by
  have hm := mlen_range (y := y) m1 m2
  unfold nthWd Tm.kth
  have ef : dayNum y m 1 = Tm.dayOf y m.toNat 1 := dayNum_eq m1 (by omega) (by omega)
  rw [← ef, ← mlen_eq m1 m2]
  have hw : Tm.weekday (dayNum y m 1) < 7 := by unfold Tm.weekday; omega
  have ew : (w - wdM (dayNum y m 1)) % 7 = (((w.toNat + 7 - Tm.weekday (dayNum y m 1)) % 7 : Nat) : Int) := by
    rw [wd_eq]
    omega
  simp only [ew]
  by_cases c : k = 5
  · subst c
    simp only [show (5 : Int).toNat = 5 from rfl, if_true]
    split <;> split <;> omega
  · have : ¬ k.toNat = 5 := by omega
    rw [if_neg this]
    split <;> omega
theorem isMoment_eq (t : Int) : Tm.isMoment t = Tm.isDay (t / 86400) := by
  unfold Tm.isMoment Tm.isDay Tm.DAYMIN Tm.DAYMAX
  by_cases a : -719162 * 86400 ≤ t <;> by_cases b : t < (2932896 + 1) * 86400
  · rw [decide_eq_true a, decide_eq_true b, decide_eq_true (by omega : -719162 ≤ t / 86400), decide_eq_true (by omega : t / 86400 ≤ 2932896)]
  · rw [decide_eq_true a, decide_eq_false b, decide_eq_true (by omega : -719162 ≤ t / 86400), decide_eq_false (by omega : ¬ t / 86400 ≤ 2932896)]
  · rw [decide_eq_false a, decide_eq_true b, decide_eq_false (by omega : ¬ -719162 ≤ t / 86400), decide_eq_true (by omega : t / 86400 ≤ 2932896)]
  · omega
theorem isDay_iff {n : Int} : Tm.isDay n = true ↔ -719162 ≤ n ∧ n ≤ 2932896 := by
  unfold Tm.isDay Tm.DAYMIN Tm.DAYMAX
  simp
end Cc
set_option maxHeartbeats 2000000
namespace Cc
/-! ## Clocks: rules and their moments -/
/-- a rule as it stands in the program: five numbers -/
structure R5 where
  m : Int
  k : Int
  w : Int
  s : Int
  o : Int
def R5.to (r : R5) : Tm.Rule := ⟨r.m.toNat, r.k.toNat, r.w.toNat, r.s.toNat, r.o⟩
def R5.ok (r : R5) : Bool := decide (1 ≤ r.m ∧ r.m ≤ 12 ∧ 1 ≤ r.k ∧ r.k ≤ 5 ∧ 0 ≤ r.w ∧ r.w ≤ 6) && (decide (0 ≤ r.s ∧ r.s < 86400) && Tm.offsetOk r.o)
structure R5.Ok (r : R5) : Prop where
  m1 : 1 ≤ r.m
  m2 : r.m ≤ 12
  k1 : 1 ≤ r.k
  k2 : r.k ≤ 5
  w1 : 0 ≤ r.w
  w2 : r.w ≤ 6
  s1 : 0 ≤ r.s
  s2 : r.s < 86400
  o : Tm.offsetOk r.o = true
theorem R5.ok_iff {r : R5} : r.ok = true ↔ r.Ok := by
  unfold R5.ok
  rw [Bool.and_eq_true, Bool.and_eq_true, decide_eq_true_eq, decide_eq_true_eq]
  constructor
  · rintro ⟨⟨a, b, c, d, e, f⟩, ⟨g, h⟩, i⟩
    exact ⟨a, b, c, d, e, f, g, h, i⟩
  · rintro ⟨a, b, c, d, e, f, g, h, i⟩
    exact ⟨⟨a, b, c, d, e, f⟩, ⟨g, h⟩, i⟩
/-- rule_moment -/
def R5.at_ (r : R5) (y : Int) : Int := nthWd y r.m r.k r.w * 86400 + r.s
theorem R5.at_eq {r : R5} (h : r.Ok) (y : Int) : r.at_ y = r.to.at_ y := by
  unfold R5.at_ Tm.Rule.at_ R5.to
  rw [nthWd_eq h.m1 h.m2 h.k1 h.k2 h.w1 h.w2]
  have := h.s1
  show Tm.kth y r.m.toNat r.k.toNat r.w.toNat * 86400 + r.s = Tm.kth y r.m.toNat r.k.toNat r.w.toNat * 86400 + ((r.s.toNat : Nat) : Int)
  omega
theorem nthWd_range {y m k w : Int} (m1 : 1 ≤ m) (m2 : m ≤ 12) (k1 : 1 ≤ k) (k2 : k ≤ 5) : dayNum y m 1 ≤ nthWd y m k w ∧ nthWd y m k w < dayNum y m 1 + mlen y m := by
  have hm := mlen_range (y := y) m1 m2
  unfold nthWd
  simp only
  split <;> omega
theorem month_range {y m : Int} (m1 : 1 ≤ m) (m2 : m ≤ 12) : foy y ≤ dayNum y m 1 ∧ dayNum y m 1 + mlen y m ≤ foy (y + 1) := by
  have g2 : dbm y 1 ≤ dbm y m := by
    have := mb_mono y 1 m.toNat (by omega) (by omega)
    rw [dbm_eq (by omega) (by omega), dbm_eq m1 (by omega)]
    exact Int.ofNat_le.mpr this
  have g3 : dbm y (m + 1) ≤ dbm y 13 := by
    have := mb_mono y (m + 1).toNat 13 (by omega) (by omega)
    rw [dbm_eq (by omega) (by omega), dbm_eq (by omega) (by omega)]
    exact Int.ofNat_le.mpr this
  rw [dbm_one] at g2
  rw [dbm_13] at g3
  unfold dayNum mlen
  omega
theorem month_apart {y m m' : Int} (h1 : 1 ≤ m) (h : m < m') (h2 : m' ≤ 12) : dayNum y m 1 + mlen y m ≤ dayNum y m' 1 := by
  have g3 : dbm y (m + 1) ≤ dbm y m' := by
    have := mb_mono y (m + 1).toNat m'.toNat (by omega) (by omega)
    rw [dbm_eq (by omega) (by omega), dbm_eq (by omega) (by omega)]
    exact Int.ofNat_le.mpr this
  unfold dayNum mlen
  omega
theorem R5.year {r : R5} (h : r.Ok) (y : Int) : foy y * 86400 ≤ r.at_ y ∧ r.at_ y < foy (y + 1) * 86400 := by
  have a := nthWd_range (y := y) (w := r.w) h.m1 h.m2 h.k1 h.k2
  have b := month_range (y := y) h.m1 h.m2
  have := h.s1
  have := h.s2
  unfold R5.at_
  omega
theorem nthWd_wd {y m k w : Int} (w1 : 0 ≤ w) (w2 : w ≤ 6) : wdM (nthWd y m k w) = w := by
  unfold nthWd wdM
  simp only
  split <;> omega
/-- ever_meet -/
def meetM (a b : R5) : Bool := decide (a.m = b.m ∧ a.w = b.w ∧ a.s = b.s) && decide ((if 4 < a.k then 4 else a.k) = (if 4 < b.k then 4 else b.k))
/-- in some year the fourth is the last -/
theorem four_last : ((List.range 12).all fun m => (List.range 7).all fun w => (List.range 28).any fun y => decide (Tm.kth ((y : Int) + 1) (m + 1) 4 w = Tm.kth ((y : Int) + 1) (m + 1) 5 w)) = true := by decide +kernel
theorem four_last' {m w : Int} (m1 : 1 ≤ m) (m2 : m ≤ 12) (w1 : 0 ≤ w) (w2 : w ≤ 6) : ∃ y : Nat, y < 28 ∧ nthWd ((y : Int) + 1) m 4 w = nthWd ((y : Int) + 1) m 5 w := by
  have h := four_last
  rw [List.all_eq_true] at h
  have h := h (m - 1).toNat (List.mem_range.mpr (by omega))
  rw [List.all_eq_true] at h
  have h := h w.toNat (List.mem_range.mpr (by omega))
  rw [List.any_eq_true] at h
  obtain ⟨y, hy, e⟩ := h
  refine ⟨y, List.mem_range.mp hy, ?_⟩
  rw [nthWd_eq m1 m2 (by omega) (by omega) w1 w2, nthWd_eq m1 m2 (by omega) (by omega) w1 w2]
  have e := of_decide_eq_true e
  rw [show (m - 1).toNat + 1 = m.toNat by omega] at e
  exact e
theorem meet_none {a b : R5} (ha : a.Ok) (hb : b.Ok) (h : meetM a b = false) (y : Int) : a.at_ y ≠ b.at_ y := by
  intro e
  unfold R5.at_ at e
  have es : a.s = b.s ∧ nthWd y a.m a.k a.w = nthWd y b.m b.k b.w := by
    have := ha.s1
    have := ha.s2
    have := hb.s1
    have := hb.s2
    omega
  have ew : a.w = b.w := by
    have p := nthWd_wd (y := y) (m := a.m) (k := a.k) ha.w1 ha.w2
    have q := nthWd_wd (y := y) (m := b.m) (k := b.k) hb.w1 hb.w2
    rw [es.2, q] at p
    exact p.symm
  have em : a.m = b.m := by
    have p := nthWd_range (y := y) (w := a.w) ha.m1 ha.m2 ha.k1 ha.k2
    have q := nthWd_range (y := y) (w := b.w) hb.m1 hb.m2 hb.k1 hb.k2
    rcases Int.lt_trichotomy a.m b.m with c | c | c
    · have := month_apart (y := y) ha.m1 c hb.m2
      omega
    · exact c
    · have := month_apart (y := y) hb.m1 c ha.m2
      omega
  unfold meetM at h
  rw [decide_eq_true ⟨em, ew, es.1⟩, Bool.true_and] at h
  have h := of_decide_eq_false h
  have e2 := es.2
  rw [em, ew] at e2
  have hm := mlen_range (y := y) hb.m1 hb.m2
  have := ha.k1
  have := ha.k2
  have := hb.k1
  have := hb.k2
  unfold nthWd at e2
  simp only at e2
  apply h
  split at e2 <;> split at e2 <;> split <;> split <;> omega
theorem apart_eq {a b : R5} (ha : a.Ok) (hb : b.Ok) : Tm.apart_ [a.to, b.to] = !meetM a b := by
  show ((List.range Tm.YEARS).all fun (y : Nat) => a.to.at_ ((y : Int) + 1) != b.to.at_ ((y : Int) + 1)) = _
  cases h : meetM a b with
  | false =>
    rw [Bool.not_false, List.all_eq_true]
    intro y _
    rw [← R5.at_eq ha, ← R5.at_eq hb]
    exact bne_iff_ne.mpr (meet_none ha hb h _)
  | true =>
    rw [Bool.not_true]
    unfold meetM at h
    rw [Bool.and_eq_true, decide_eq_true_eq, decide_eq_true_eq] at h
    obtain ⟨⟨em, ew, es⟩, ek⟩ := h
    have : ∃ y : Nat, y < 28 ∧ a.at_ ((y : Int) + 1) = b.at_ ((y : Int) + 1) := by
      obtain ⟨y, hy, e⟩ := four_last' hb.m1 hb.m2 hb.w1 hb.w2
      refine ⟨y, hy, ?_⟩
      unfold R5.at_
      rw [em, ew, es]
      have hk : a.k = b.k ∨ (a.k = 4 ∧ b.k = 5) ∨ (a.k = 5 ∧ b.k = 4) := by
        have := ha.k1
        have := ha.k2
        have := hb.k1
        have := hb.k2
        split at ek <;> split at ek <;> omega
      rcases hk with c | ⟨c, d⟩ | ⟨c, d⟩
      · rw [c]
      · rw [c, d, e]
      · rw [c, d, e]
    obtain ⟨y, hy, e⟩ := this
    rw [List.all_eq_false]
    refine ⟨y, List.mem_range.mpr (by show y < 9999; omega), ?_⟩
    rw [← R5.at_eq ha, ← R5.at_eq hb, e]
    simp
end Cc
set_option maxHeartbeats 4000000
set_option linter.unusedSimpArgs false
namespace Cc
/-! ## The offset at a moment -/
/-- latest_moment -/
def latM (r : R5) (t : Int) : Option Int :=
  let y := yearM (t / 86400)
  if r.at_ y ≤ t then some (r.at_ y) else if y = 1 then none else some (r.at_ (y - 1))
/-- a clock as it stands in the program -/
structure Ck where
  first : Int
  changes : List (Int × Int)
  rules : List R5
def Ck.to (c : Ck) : Tm.Clock := ⟨c.first, c.changes, c.rules.map R5.to⟩
structure Ck.Ok (c : Ck) : Prop where
  len : c.changes.length ≤ 64
  rise : Tm.risingBy c.changes = true
  two : c.rules = [] ∨ ∃ a b, c.rules = [a, b] ∧ a.Ok ∧ b.Ok ∧ meetM a b = false
/-- whether a moment counts -/
def cnt (l : Option Int) (x : Int) : Bool := match l with
  | some u => decide (u < x)
  | none => true
/-- one rule's turn -/
def rStep (t : Int) (st : Int × Option Int) (r : R5) : Int × Option Int := match latM r t with
  | none => st
  | some x => if cnt st.2 x = true then (r.o, some x) else st
/-- what the changes told so far say -/
def offL (first : Int) (l : List (Int × Int)) : Int := (l.getLast?.map fun (x : Int × Int) => x.2).getD first
def lastL (l : List (Int × Int)) : Option Int := l.getLast?.map fun (x : Int × Int) => x.1
theorem srt2 (p q : Int × Int) : [p, q].mergeSort (fun (a b : Int × Int) => decide (a.1 ≤ b.1)) = if p.1 ≤ q.1 then [p, q] else [q, p] := by
  simp [List.mergeSort, List.MergeSort.Internal.splitInTwo, List.merge]
theorem srt1 (p : Int × Int) : [p].mergeSort (fun (a b : Int × Int) => decide (a.1 ≤ b.1)) = [p] := by
  simp [List.mergeSort]
theorem srt0 : ([] : List (Int × Int)).mergeSort (fun (a b : Int × Int) => decide (a.1 ≤ b.1)) = [] := by
  simp [List.mergeSort]
/-- the last of a year's moments that count and are not behind t -/
def top2 (l : Option Int) (t : Int) (p q : Int × Int) : Option (Int × Int) :=
  if (cnt l p.1 && decide (p.1 ≤ t)) = true then (if (cnt l q.1 && decide (q.1 ≤ t)) = true then (if p.1 ≤ q.1 then some q else some p) else some p) else (if (cnt l q.1 && decide (q.1 ≤ t)) = true then some q else none)
theorem top2_eq (l : Option Int) (t : Int) (p q : Int × Int) :
    (((([p, q].filter fun (x : Int × Int) => cnt l x.1).mergeSort fun (a b : Int × Int) => decide (a.1 ≤ b.1)).filter fun (x : Int × Int) => decide (x.1 ≤ t)).getLast?) = top2 l t p q := by
  unfold top2
  cases cp : cnt l p.1 <;> cases cq : cnt l q.1 <;> by_cases tp : p.1 ≤ t <;> by_cases tq : q.1 ≤ t <;> by_cases pq : p.1 ≤ q.1 <;>
    simp [List.filter, cp, cq, srt2, srt1, srt0, tp, tq, pq]
theorem last_append {α : Type} (a b : List α) : (a ++ b).getLast? = b.getLast?.or a.getLast? := by
  rw [List.getLast?_append]
theorem ruleTimes_two {c : Ck} {a b : R5} (e : c.rules = [a, b]) (ha : a.Ok) (hb : b.Ok) {z : Int} (z1 : 1 ≤ z) (z2 : z ≤ 9999) (t : Int) :
    ((Tm.ruleTimes c.to z).filter fun (x : Int × Int) => decide (x.1 ≤ t)).getLast? = top2 (lastL c.changes) t (a.at_ z, a.o) (b.at_ z, b.o) := by
  rw [← top2_eq]
  unfold Tm.ruleTimes
  rw [if_pos ⟨z1, z2⟩]
  have e1 : (c.to.rules.map fun (r : Tm.Rule) => (r.at_ z, r.o)) = [(a.at_ z, a.o), (b.at_ z, b.o)] := by
    show ((c.rules.map R5.to).map fun (r : Tm.Rule) => (r.at_ z, r.o)) = _
    rw [e, R5.at_eq ha, R5.at_eq hb]
    rfl
  rw [e1]
  rfl
theorem ruleTimes_out {c : Tm.Clock} {z : Int} (h : z < 1) : Tm.ruleTimes c z = [] := by
  unfold Tm.ruleTimes
  rw [if_neg (by omega)]
theorem foy_mono {a b : Int} (h : a ≤ b) : foy a ≤ foy b := by
  unfold foy
  omega
/-- the two rules' turns against the last moment of the two years; there: whether the year ahead is one -/
theorem two_turns (l : Option Int) (o oa ob t A B A' B' : Int) (there : Prop) [Decidable there] (h1 : A' < A) (h2 : A' < B) (h3 : B' < A) (h4 : B' < B) (h5 : A' ≤ t) (h6 : B' ≤ t) (h7 : A ≠ B) (h8 : A' ≠ B') :
    (match (top2 l t (A, oa) (B, ob)).or (if there then top2 l t (A', oa) (B', ob) else none) with | some x => x.2 | none => o)
    = (match (if B ≤ t then some B else if there then some B' else none) with
        | none => (match (if A ≤ t then some A else if there then some A' else none) with | none => (o, l) | some x => if cnt l x = true then (oa, some x) else (o, l))
        | some x => if cnt (match (if A ≤ t then some A else if there then some A' else none) with | none => (o, l) | some x => if cnt l x = true then (oa, some x) else (o, l)).2 x = true then (ob, some x) else (match (if A ≤ t then some A else if there then some A' else none) with | none => (o, l) | some x => if cnt l x = true then (oa, some x) else (o, l))).1 := by
  have e1 : (A < B) ↔ (A ≤ B) := by omega
  have e2 : (A < B') ↔ False := iff_false_intro (by omega)
  have e3 : (A' < B) ↔ True := iff_true_intro (by omega)
  have e4 : (A' < B') ↔ (A' ≤ B') := by omega
  have e5 : (A' ≤ t) ↔ True := iff_true_intro (by omega)
  have e6 : (B' ≤ t) ↔ True := iff_true_intro (by omega)
  cases l with
  | none =>
    by_cases th : there <;> by_cases ta : A ≤ t <;> by_cases tb : B ≤ t <;> by_cases ab : A ≤ B <;> by_cases ab' : A' ≤ B' <;>
      first
      | (exfalso; omega)
      | simp [top2, cnt, th, ta, tb, ab, ab', e1, e2, e3, e4, e5, e6]
  | some u =>
    by_cases th : there <;> by_cases ta : A ≤ t <;> by_cases tb : B ≤ t <;> by_cases ab : A ≤ B <;> by_cases ab' : A' ≤ B' <;>
    by_cases ca : u < A <;> by_cases cb : u < B <;> by_cases ca' : u < A' <;> by_cases cb' : u < B' <;>
      first
      | (exfalso; omega)
      | simp [top2, cnt, th, ta, tb, ab, ab', ca, cb, ca', cb', e1, e2, e3, e4, e5, e6]
/-- the rules, where all changes are not behind t -/
theorem offset_rules {c : Ck} (ok : c.Ok) {t : Int} (ht : Tm.isMoment t = true) (all : ∀ x ∈ c.changes, x.1 ≤ t) :
    Tm.offset c.to t = (c.rules.foldl (rStep t) (offL c.first c.changes, lastL c.changes)).1 := by
  have hd : -719162 ≤ t / 86400 ∧ t / 86400 ≤ 2932896 := by
    rw [isMoment_eq] at ht
    exact isDay_iff.mp ht
  have hy := yearM_is (t / 86400)
  have hyr := yearM_range hd.1 hd.2
  have hf : (c.to.changes.filter fun (x : Int × Int) => decide (x.1 ≤ t)) = c.changes := by
    show (c.changes.filter fun (x : Int × Int) => decide (x.1 ≤ t)) = c.changes
    exact List.filter_eq_self.mpr fun x hx => decide_eq_true (all x hx)
  have none_case : Tm.lastRule c.to t = none → Tm.offset c.to t = offL c.first c.changes := by
    intro e
    unfold Tm.offset
    rw [e, hf]
    rfl
  have some_case : ∀ x, Tm.lastRule c.to t = some x → Tm.offset c.to t = x.2 := by
    intro x e
    unfold Tm.offset
    rw [e]
  have lr : Tm.lastRule c.to t = (((Tm.ruleTimes c.to (yearM (t / 86400))).filter fun (x : Int × Int) => decide (x.1 ≤ t)).getLast?).or (((Tm.ruleTimes c.to (yearM (t / 86400) - 1)).filter fun (x : Int × Int) => decide (x.1 ≤ t)).getLast?) := by
    unfold Tm.lastRule
    simp only
    rw [Int.fdiv_eq_ediv_of_nonneg _ (by decide), ← yearM_eq hd.1 hd.2]
    simp only [List.flatMap_cons, List.flatMap_nil, List.append_nil]
    exact last_append _ _
  rcases ok.two with e | ⟨a, b, e, ha, hb, hm⟩
  · have z : ∀ z, Tm.ruleTimes c.to z = [] := by
      intro z
      unfold Tm.ruleTimes
      have : c.to.rules = [] := by show c.rules.map R5.to = []; rw [e]; rfl
      rw [this]
      simp [List.mergeSort]
    rw [none_case (by rw [lr, z, z]; rfl), e]
    rfl
  · rw [e]
    show _ = (rStep t (rStep t (offL c.first c.changes, lastL c.changes) a) b).1
    generalize hl : lastL c.changes = l at *
    generalize ho : offL c.first c.changes = o at *
    generalize hY : yearM (t / 86400) = y at *
    have A := R5.year ha y
    have A' := R5.year ha (y - 1)
    have B := R5.year hb y
    have B' := R5.year hb (y - 1)
    rw [show y - 1 + 1 = y by omega] at A' B'
    have ne := meet_none ha hb hm y
    have ne' := meet_none ha hb hm (y - 1)
    have lra := ruleTimes_two e ha hb hyr.1 hyr.2 t
    rw [hl] at lra
    rw [lra] at lr
    have tT : foy y * 86400 ≤ t := by omega
    have R : Tm.lastRule c.to t = (top2 l t (a.at_ y, a.o) (b.at_ y, b.o)).or (if ¬ y = 1 then top2 l t (a.at_ (y - 1), a.o) (b.at_ (y - 1), b.o) else none) := by
      by_cases y1 : y = 1
      · rw [if_neg (by omega)]
        rw [ruleTimes_out (by omega)] at lr
        exact lr
      · rw [if_pos y1]
        have q := ruleTimes_two e ha hb (z := y - 1) (by omega) (by omega) t
        rw [hl] at q
        rw [q] at lr
        exact lr
    have G : Tm.offset c.to t = (match Tm.lastRule c.to t with | some x => x.2 | none => o) := by
      cases k : Tm.lastRule c.to t with
      | none => exact none_case k
      | some x => exact some_case x k
    rw [G, R]
    have key := two_turns l o a.o b.o t (a.at_ y) (b.at_ y) (a.at_ (y - 1)) (b.at_ (y - 1)) (¬ y = 1) (by omega) (by omega) (by omega) (by omega) (by omega) (by omega) ne ne'
    rw [key]
    unfold rStep latM
    simp only [hY, ite_not]
end Cc
set_option maxHeartbeats 4000000
set_option linter.unusedSimpArgs false
namespace Cc
/-! ## The changes -/
theorem rise_cons {a : Int × Int} {l : List (Int × Int)} : Tm.risingBy (a :: l) = true ↔ (∀ b, l.head? = some b → a.1 < b.1) ∧ Tm.risingBy l = true := by
  cases l with
  | nil => simp [Tm.risingBy]
  | cons b r =>
    rw [Tm.risingBy.eq_def]
    simp
theorem rise_pair : ∀ {l : List (Int × Int)}, Tm.risingBy l = true → l.Pairwise fun a b => a.1 < b.1
  | [], _ => .nil
  | a :: l, h => by
    obtain ⟨h1, h2⟩ := rise_cons.mp h
    have ih := rise_pair h2
    refine .cons (fun b hb => ?_) ih
    cases l with
    | nil => cases hb
    | cons c r =>
      have q := h1 c rfl
      cases hb with
      | head => exact q
      | tail _ hb =>
        have := (List.pairwise_cons.mp ih).1 b hb
        omega
/-- are_changes: whether they are changes -/
def areChg (cs : List (Int × Int)) : Bool := (cs.all fun (c : Int × Int) => Tm.offsetOk c.2) && Tm.risingBy cs
theorem rise_iff : ∀ {l : List (Int × Int)}, Tm.risingBy l = true ↔ ∀ (j : Nat) (x y : Int × Int), l[j]? = some x → l[j + 1]? = some y → x.1 < y.1
  | [] => by simp [Tm.risingBy]
  | a :: l => by
    rw [rise_cons, rise_iff]
    constructor
    · rintro ⟨h1, h2⟩ j x y hx hy
      cases j with
      | zero =>
        simp at hx hy
        subst hx
        exact h1 y (by rw [List.head?_eq_getElem?]; exact hy)
      | succ j => exact h2 j x y (by simpa using hx) (by simpa using hy)
    · intro h
      refine ⟨fun b hb => h 0 a b rfl (by rw [List.head?_eq_getElem?] at hb; simpa using hb), fun j x y hx hy => h (j + 1) x y (by simpa using hx) (by simpa using hy)⟩
theorem areChg_iff {cs : List (Int × Int)} : areChg cs = true ↔ ∀ (j : Nat) (x : Int × Int), cs[j]? = some x → Tm.offsetOk x.2 = true ∧ ∀ y, 0 < j → cs[j - 1]? = some y → y.1 < x.1 := by
  unfold areChg
  rw [Bool.and_eq_true, List.all_eq_true, rise_iff]
  constructor
  · rintro ⟨h1, h2⟩ j x hx
    refine ⟨h1 x (List.mem_of_getElem? hx), fun y hj hy => h2 (j - 1) y x hy (by rw [show j - 1 + 1 = j by omega]; exact hx)⟩
  · intro h
    refine ⟨fun x hx => ?_, fun j x y hx hy => (h (j + 1) y hy).2 x (by omega) (by simpa using hx)⟩
    obtain ⟨i, hi⟩ := List.mem_iff_getElem?.mp hx
    exact (h i x hi).1
/-- where a change is behind t, the ones ahead of it tell -/
theorem offset_early {c : Ck} (ok : c.Ok) {t : Int} {i : Nat} {x : Int × Int} (hi : c.changes[i]? = some x) (hx : t < x.1) (all : ∀ y ∈ c.changes.take i, y.1 ≤ t) :
    Tm.offset c.to t = offL c.first (c.changes.take i) := by
  have pw := rise_pair ok.rise
  have split : c.changes = c.changes.take i ++ x :: c.changes.drop (i + 1) := by
    have hlt : i < c.changes.length := by
      by_cases q : i < c.changes.length
      · exact q
      · rw [List.getElem?_eq_none (by omega)] at hi
        cases hi
    have e : c.changes.drop i = x :: c.changes.drop (i + 1) := by
      rw [List.drop_eq_getElem_cons hlt]
      rw [List.getElem?_eq_getElem hlt] at hi
      rw [Option.some.inj hi]
    rw [← e, List.take_append_drop]
  have big : ∀ y ∈ x :: c.changes.drop (i + 1), t < y.1 := by
    rw [split] at pw
    have p2 := (List.pairwise_append.mp pw).2.1
    intro y hy
    cases hy with
    | head => exact hx
    | tail _ hy =>
      have := (List.pairwise_cons.mp p2).1 y hy
      omega
  have hf : (c.to.changes.filter fun (y : Int × Int) => decide (y.1 ≤ t)) = c.changes.take i := by
    show (c.changes.filter fun (y : Int × Int) => decide (y.1 ≤ t)) = c.changes.take i
    conv => lhs; rw [split]
    rw [List.filter_append, List.filter_eq_self.mpr fun y hy => decide_eq_true (all y hy), List.filter_eq_nil_iff.mpr, List.append_nil]
    intro y hy
    have := big y hy
    simp
    omega
  have hl : ∃ u, Tm.lastChange c.to = some u ∧ t < u := by
    unfold Tm.lastChange
    show ∃ u, (c.changes.getLast?.map fun (x : Int × Int) => x.1) = some u ∧ t < u
    rw [split, List.getLast?_append]
    have : ∃ z, (x :: c.changes.drop (i + 1)).getLast? = some z := ⟨_, List.getLast?_eq_some_getLast (by simp)⟩
    obtain ⟨z, hz⟩ := this
    rw [hz]
    exact ⟨z.1, rfl, big z (List.mem_of_getLast? hz)⟩
  obtain ⟨u, hu, ut⟩ := hl
  have nr : ∀ z, ((Tm.ruleTimes c.to z).filter fun (x : Int × Int) => decide (x.1 ≤ t)) = [] := by
    intro z
    rw [List.filter_eq_nil_iff]
    intro y hy
    unfold Tm.ruleTimes at hy
    split at hy
    · have hy := List.mem_mergeSort.mp hy
      have hy := (List.mem_filter.mp hy).2
      rw [hu] at hy
      have := of_decide_eq_true hy
      simp
      omega
    · cases hy
  have lr : Tm.lastRule c.to t = none := by
    unfold Tm.lastRule
    simp only [List.flatMap_cons, List.flatMap_nil, nr]
    rfl
  unfold Tm.offset
  rw [lr, hf]
  rfl
end Cc
set_option maxHeartbeats 4000000
set_option linter.unusedSimpArgs false
namespace Cc
/-! ## The moments of a reading -/
theorem nodup_dups : ∀ (n : Nat) (l : List Int), l.length ≤ n → l.eraseDups.Nodup
  | _, [], _ => by simp
  | 0, _ :: _, h => by simp at h
  | n + 1, a :: l, h => by
    rw [List.eraseDups_cons]
    refine List.nodup_cons.mpr ⟨?_, nodup_dups n _ ?_⟩
    · rw [List.mem_eraseDups, List.mem_filter]
      rintro ⟨_, q⟩
      simp at q
    · have := List.length_filter_le (fun b => !b == a) l
      simp at h
      omega
/-- offsets_of -/
def Ck.offs (c : Ck) : List Int := c.first :: (c.changes.map fun (x : Int × Int) => x.2) ++ c.rules.map fun (r : R5) => r.o
/-- one turn of moments_of's loop -/
def whStep (c : Ck) (u : Int) (found : List Int) (o : Int) : List Int :=
  if ¬ (u - o) ∈ found ∧ Tm.isMoment (u - o) = true ∧ Tm.offset c.to (u - o) = o then found ++ [u - o] else found
theorem wh_mem (c : Ck) (u : Int) : ∀ (l f : List Int) (t : Int), t ∈ l.foldl (whStep c u) f ↔ t ∈ f ∨ ∃ o ∈ l, t = u - o ∧ Tm.isMoment t = true ∧ Tm.offset c.to t = o
  | [], f, t => by simp
  | o :: l, f, t => by
    rw [List.foldl_cons, wh_mem c u l]
    unfold whStep
    constructor
    · rintro (h | ⟨o', h, r⟩)
      · split at h
        · next q =>
          rw [List.mem_append, List.mem_singleton] at h
          rcases h with h | h
          · exact .inl h
          · subst h
            exact .inr ⟨o, List.mem_cons_self, rfl, q.2.1, q.2.2⟩
        · exact .inl h
      · exact .inr ⟨o', List.mem_cons_of_mem _ h, r⟩
    · rintro (h | ⟨o', h, rfl, q1, q2⟩)
      · left
        split
        · exact List.mem_append_left _ h
        · exact h
      · rw [List.mem_cons] at h
        rcases h with rfl | h
        · left
          by_cases m : (u - o') ∈ f
          · split
            · exact List.mem_append_left _ m
            · exact m
          · rw [if_pos ⟨m, q1, q2⟩]
            simp
        · exact .inr ⟨o', h, rfl, q1, q2⟩
theorem wh_nodup (c : Ck) (u : Int) : ∀ (l f : List Int), f.Nodup → (l.foldl (whStep c u) f).Nodup
  | [], f, h => h
  | o :: l, f, h => by
    rw [List.foldl_cons]
    refine wh_nodup c u l _ ?_
    unfold whStep
    split
    · next q =>
      rw [List.nodup_append]
      refine ⟨h, by simp, ?_⟩
      intro a ha b hb e
      rw [List.mem_singleton] at hb
      subst hb
      exact q.1 (e ▸ ha)
    · exact h
theorem offs_eq (c : Ck) : Tm.offsets c.to = c.offs.eraseDups := by
  unfold Tm.offsets Ck.offs Ck.to
  simp only [List.map_map]
  rfl
theorem whens_eq {c : Ck} {r : Tm.Read} {u : Int} (hu : Tm.flat r = u) {l : List Int} (hp : l.Perm (c.offs.foldl (whStep c u) [])) (hs : l.Pairwise (· ≤ ·)) : l = Tm.whens c.to r := by
  unfold Tm.whens
  rw [hu, offs_eq]
  have nd : ((c.offs.eraseDups.map fun (o : Int) => u - o).filter fun (t : Int) => Tm.isMoment t && (t + Tm.offset c.to t == u)).Nodup := by
    refine List.Pairwise.filter _ ?_
    rw [List.pairwise_map]
    refine List.Pairwise.imp ?_ (nodup_dups _ c.offs (Nat.le_refl _))
    intro a b h e
    omega
  have pm : l.Perm ((c.offs.eraseDups.map fun (o : Int) => u - o).filter fun (t : Int) => Tm.isMoment t && (t + Tm.offset c.to t == u)) := by
    refine hp.trans ((List.perm_ext_iff_of_nodup (wh_nodup c u _ _ .nil) nd).mpr fun t => ?_)
    rw [wh_mem, List.mem_filter, List.mem_map]
    constructor
    · rintro (h | ⟨o, h, rfl, q1, q2⟩)
      · cases h
      · refine ⟨⟨o, List.mem_eraseDups.mpr h, rfl⟩, ?_⟩
        rw [q1, q2]
        simp
    · rintro ⟨⟨o, h, rfl⟩, q⟩
      rw [Bool.and_eq_true, beq_iff_eq] at q
      exact .inr ⟨o, List.mem_eraseDups.mp h, rfl, q.1, by omega⟩
  refine List.Perm.eq_of_pairwise (le := (· ≤ ·)) (fun a b _ _ h1 h2 => Int.le_antisymm h1 h2) hs ?_ (pm.trans (List.mergeSort_perm _ _).symm)
  have := List.pairwise_mergeSort (le := fun (a b : Int) => decide (a ≤ b)) (fun a b c h1 h2 => by simp at h1 h2 ⊢; omega) (fun a b => by simp; omega) ((c.offs.eraseDups.map fun (o : Int) => u - o).filter fun (t : Int) => Tm.isMoment t && (t + Tm.offset c.to t == u))
  exact this.imp fun h => of_decide_eq_true h
/-! ## A clock of numbers -/
def chgs : Nat → List Int → List (Int × Int)
  | k + 1, a :: b :: l => (a, b) :: chgs k l
  | _, _ => []
theorem pairsOf_eq : ∀ (k : Nat) (l : List Int), 2 * k ≤ l.length → Tm.pairsOf k l = some (chgs k l, l.drop (2 * k))
  | 0, l, _ => by simp [Tm.pairsOf, chgs]
  | k + 1, [], h => by simp at h
  | k + 1, [_], h => by simp at h; omega
  | k + 1, a :: b :: l, h => by
    have ih := pairsOf_eq k l (by simp at h; omega)
    simp only [Tm.pairsOf, chgs, ih, Option.map_some]
    rfl
theorem pairsOf_none : ∀ (k : Nat) (l : List Int), l.length < 2 * k → Tm.pairsOf k l = none
  | 0, l, h => by omega
  | k + 1, [], h => by simp [Tm.pairsOf]
  | k + 1, [_], h => by simp [Tm.pairsOf]
  | k + 1, a :: b :: l, h => by
    have ih := pairsOf_none k l (by simp at h; omega)
    simp only [Tm.pairsOf, ih, Option.map_none]
theorem chgs_len : ∀ (k : Nat) (l : List Int), 2 * k ≤ l.length → (chgs k l).length = k
  | 0, l, _ => by simp [chgs]
  | k + 1, [], h => by simp at h
  | k + 1, [_], h => by simp at h; omega
  | k + 1, a :: b :: l, h => by
    have ih := chgs_len k l (by simp at h; omega)
    simp [chgs, ih]
theorem chgs_get : ∀ (k : Nat) (l : List Int) (i : Nat), i < k → 2 * k ≤ l.length → (chgs k l)[i]? = some (l.getD (2 * i) 0, l.getD (2 * i + 1) 0)
  | 0, l, i, h, _ => by omega
  | k + 1, [], i, _, h => by simp at h
  | k + 1, [_], i, _, h => by simp at h; omega
  | k + 1, a :: b :: l, 0, _, h => by simp [chgs]
  | k + 1, a :: b :: l, i + 1, hi, h => by
    have ih := chgs_get k l i (by omega) (by simp at h; omega)
    simp only [chgs, List.getElem?_cons_succ, ih]
    rw [show 2 * (i + 1) = 2 * i + 1 + 1 by omega, show 2 * i + 1 + 1 + 1 = (2 * i + 1) + 1 + 1 by omega]
    rfl
/-- five numbers of a list, from a place on -/
def r5At (l : List Int) (i : Nat) : R5 := ⟨l.getD i 0, l.getD (i + 1) 0, l.getD (i + 2) 0, l.getD (i + 3) 0, l.getD (i + 4) 0⟩
theorem rulesOf_cons (n : Nat) (m k w s o : Int) (l : List Int) : Tm.rulesOf (n + 1) (m :: k :: w :: s :: o :: l) =
    if (R5.mk m k w s o).ok = true then (Tm.rulesOf n l).map fun (x : List Tm.Rule × List Int) => ((R5.mk m k w s o).to :: x.1, x.2) else none := by
  cases h : (R5.mk m k w s o).ok with
  | true =>
    have q := R5.ok_iff.mp h
    obtain ⟨m1, m2, k1, k2, w1, w2, s1, s2, ho⟩ := q
    simp only at m1 m2 k1 k2 w1 w2 s1 s2 ho
    rw [if_pos rfl]
    simp only [Tm.rulesOf, Tm.natIn]
    rw [if_pos (show ((1 : Nat) : Int) ≤ m ∧ m ≤ ((12 : Nat) : Int) by omega), if_pos (show ((1 : Nat) : Int) ≤ k ∧ k ≤ ((5 : Nat) : Int) by omega), if_pos (show ((0 : Nat) : Int) ≤ w ∧ w ≤ ((6 : Nat) : Int) by omega), if_pos (show ((0 : Nat) : Int) ≤ s ∧ s ≤ ((86399 : Nat) : Int) by omega)]
    simp only
    rw [if_pos ho]
    rfl
  | false =>
    rw [if_neg (by simp)]
    simp only [Tm.rulesOf, Tm.natIn]
    by_cases a : ((1 : Nat) : Int) ≤ m ∧ m ≤ ((12 : Nat) : Int)
    case neg => rw [if_neg a]
    by_cases b : ((1 : Nat) : Int) ≤ k ∧ k ≤ ((5 : Nat) : Int)
    case neg => rw [if_neg b]; split <;> first | rfl | simp_all
    by_cases c : ((0 : Nat) : Int) ≤ w ∧ w ≤ ((6 : Nat) : Int)
    case neg => rw [if_neg c]; split <;> first | rfl | simp_all
    by_cases d : ((0 : Nat) : Int) ≤ s ∧ s ≤ ((86399 : Nat) : Int)
    case neg => rw [if_neg d]; split <;> first | rfl | simp_all
    rw [if_pos a, if_pos b, if_pos c, if_pos d]
    simp only
    by_cases e : Tm.offsetOk o = true
    · exfalso
      have : (R5.mk m k w s o).ok = true := R5.ok_iff.mpr ⟨by show 1 ≤ m; omega, by show m ≤ 12; omega, by show 1 ≤ k; omega, by show k ≤ 5; omega, by show 0 ≤ w; omega, by show w ≤ 6; omega, by show 0 ≤ s; omega, by show s < 86400; omega, e⟩
      rw [h] at this
      cases this
    · rw [if_neg e]
/-- whether rules are rules (none or two of them) -/
def areRul (l : List R5) : Bool := l.all R5.ok && (match l with
  | [a, b] => !meetM a b
  | _ => true)
/-- the rules that a clock's numbers tell: none or two -/
def rulL (ns : List Int) (ra : Nat) (m : Int) : List R5 := if m = 2 then [r5At ns (ra + 1), r5At ns (ra + 6)] else []
theorem five : ∀ (l : List Int), 5 ≤ l.length → l = l.getD 0 0 :: l.getD 1 0 :: l.getD 2 0 :: l.getD 3 0 :: l.getD 4 0 :: l.drop 5
  | a :: b :: c :: d :: e :: l, _ => by simp
  | [], h => by simp at h
  | [_], h => by simp at h
  | [_, _], h => by simp at h
  | [_, _, _], h => by simp at h
  | [_, _, _, _], h => by simp at h
theorem rulesOf_short : ∀ (n : Nat) (l : List Int), l.length < 5 → Tm.rulesOf (n + 1) l = none
  | _, a :: b :: c :: d :: e :: l, h => by simp at h; omega
  | _, [], _ => by simp [Tm.rulesOf]
  | _, [_], _ => by simp [Tm.rulesOf]
  | _, [_, _], _ => by simp [Tm.rulesOf]
  | _, [_, _, _], _ => by simp [Tm.rulesOf]
  | _, [_, _, _, _], _ => by simp [Tm.rulesOf]
theorem rulesOf_two (l : List Int) : Tm.rulesOf 2 l = if 10 ≤ l.length ∧ (r5At l 0).ok = true ∧ (r5At l 5).ok = true then some ([(r5At l 0).to, (r5At l 5).to], l.drop 10) else none := by
  by_cases h5 : 5 ≤ l.length
  · have e := five l h5
    rw [e, rulesOf_cons, ← e]
    have e0 : R5.mk (l.getD 0 0) (l.getD 1 0) (l.getD 2 0) (l.getD 3 0) (l.getD 4 0) = r5At l 0 := rfl
    rw [e0]
    by_cases h10 : 10 ≤ l.length
    · have f := five (l.drop 5) (by simp; omega)
      rw [f, rulesOf_cons]
      have e1 : R5.mk ((l.drop 5).getD 0 0) ((l.drop 5).getD 1 0) ((l.drop 5).getD 2 0) ((l.drop 5).getD 3 0) ((l.drop 5).getD 4 0) = r5At l 5 := by
        unfold r5At
        simp [List.getD, List.getElem?_drop]
      rw [e1]
      simp only [Tm.rulesOf, List.drop_drop]
      by_cases a : (r5At l 0).ok = true <;> by_cases b : (r5At l 5).ok = true <;> simp [a, b, h10]
    · have r := rulesOf_short 0 (l.drop 5) (by simp; omega)
      rw [r]
      simp [h10]
  · rw [rulesOf_short 1 l (by omega), if_neg (by omega)]
theorem clockOf_short {ns : List Int} (h : ns.length < 2) : Tm.clockOf ns = none := by
  cases ns with
  | nil => rfl
  | cons a l =>
    cases l with
    | nil => rfl
    | cons b l => simp at h; omega
theorem two_of : ∀ {ns : List Int}, 2 ≤ ns.length → ns = ns.getD 0 0 :: ns.getD 1 0 :: ns.drop 2
  | a :: b :: l, _ => by simp
  | [], h => by simp at h
  | [_], h => by simp at h
theorem clockOf_n {ns : List Int} (h : 2 ≤ ns.length) (hn : ¬ (0 ≤ ns.getD 1 0 ∧ ns.getD 1 0 ≤ 64)) : Tm.clockOf ns = none := by
  rw [two_of h]
  unfold Tm.clockOf Tm.natIn Tm.CHANGES
  simp only
  rw [if_neg (by simpa using hn)]
  rfl
/-- where the changes stand and a number of rules behind them -/
theorem clockOf_at {ns : List Int} (h : 2 ≤ ns.length) {k : Nat} (hk : ns.getD 1 0 = k) (k64 : k ≤ 64) (hl : 2 + 2 * k < ns.length) :
    Tm.clockOf ns = (Tm.natIn 0 2 (ns.getD (2 + 2 * k) 0)).bind fun (j : Nat) => (Tm.rulesOf j (ns.drop (2 + 2 * k + 1))).bind fun (y : List Tm.Rule × List Int) =>
      if y.2 = [] ∧ j ≠ 1 ∧ Tm.offsetOk (ns.getD 0 0) = true ∧ ((chgs k (ns.drop 2)).all fun (c : Int × Int) => Tm.offsetOk c.2) = true ∧ Tm.risingBy (chgs k (ns.drop 2)) = true ∧ Tm.apart_ y.1 = true then some ⟨ns.getD 0 0, chgs k (ns.drop 2), y.1⟩ else none := by
  have e := two_of h
  have ep := pairsOf_eq k (ns.drop 2) (by simp; omega)
  have ed : (ns.drop 2).drop (2 * k) = ns.getD (2 + 2 * k) 0 :: ns.drop (2 + 2 * k + 1) := by
    rw [List.drop_drop, List.drop_eq_getElem_cons hl]
    simp [List.getD, List.getElem?_eq_getElem hl]
  conv => lhs; rw [e]
  unfold Tm.clockOf
  simp only
  have en : Tm.natIn 0 Tm.CHANGES (ns.getD 1 0) = some k := by
    unfold Tm.natIn Tm.CHANGES
    rw [hk, if_pos (by omega)]
    simp
  rw [en]
  simp only [Option.bind_some]
  rw [ep]
  simp only [Option.bind_some]
  rw [ed]
theorem clockOf_few {ns : List Int} (h : 2 ≤ ns.length) {k : Nat} (hk : ns.getD 1 0 = k) (k64 : k ≤ 64) (hl : ns.length ≤ 2 + 2 * k) : Tm.clockOf ns = none := by
  have e := two_of h
  rw [e]
  unfold Tm.clockOf
  simp only
  have en : Tm.natIn 0 Tm.CHANGES (ns.getD 1 0) = some k := by
    unfold Tm.natIn Tm.CHANGES
    rw [hk, if_pos (by omega)]
    simp
  rw [en]
  simp only [Option.bind_some]
  by_cases c : (ns.drop 2).length < 2 * k
  · rw [pairsOf_none k _ c]
    rfl
  · rw [pairsOf_eq k _ (by omega)]
    simp only [Option.bind_some]
    rw [List.drop_eq_nil_of_le (by simp; omega)]
theorem clockOf_m {ns : List Int} (h : 2 ≤ ns.length) {k : Nat} (hk : ns.getD 1 0 = k) (k64 : k ≤ 64) (hl : 2 + 2 * k < ns.length) (hm : ¬ (ns.getD (2 + 2 * k) 0 = 0 ∨ ns.getD (2 + 2 * k) 0 = 2)) : Tm.clockOf ns = none := by
  rw [clockOf_at h hk k64 hl]
  generalize ns.getD (2 + 2 * k) 0 = m at *
  unfold Tm.natIn
  split
  · next q =>
    have : m = 1 := by omega
    subst this
    simp only [Option.bind_some]
    cases Tm.rulesOf (1 : Int).toNat (ns.drop (2 + 2 * k + 1)) with
    | none => rfl
    | some y =>
      simp only [Option.bind_some]
      rw [if_neg (fun z => z.2.1 rfl)]
  · rfl
theorem clockOf_len {ns : List Int} (h : 2 ≤ ns.length) {k : Nat} (hk : ns.getD 1 0 = k) (k64 : k ≤ 64) (hl : 2 + 2 * k < ns.length) {m : Int} (em : ns.getD (2 + 2 * k) 0 = m) (hm : m = 0 ∨ m = 2) (hn : (ns.length : Int) ≠ 2 + 2 * k + 1 + 5 * m) : Tm.clockOf ns = none := by
  rw [clockOf_at h hk k64 hl, em]
  rcases hm with rfl | rfl
  · rw [show Tm.natIn 0 2 0 = some 0 from rfl]
    simp only [Tm.rulesOf, Option.bind_some]
    rw [if_neg]
    rintro ⟨q, _⟩
    have := List.drop_eq_nil_iff.mp q
    omega
  · rw [show Tm.natIn 0 2 2 = some 2 from rfl]
    simp only [Option.bind_some]
    rw [rulesOf_two]
    split
    · next q =>
      simp only [Option.bind_some]
      rw [if_neg]
      rintro ⟨z, _⟩
      have := List.drop_eq_nil_iff.mp z
      simp at q this
      omega
    · rfl
theorem r5At_drop (ns : List Int) (a b : Nat) : r5At (ns.drop a) b = r5At ns (a + b) := by
  unfold r5At
  simp [List.getD, List.getElem?_drop, Nat.add_assoc]
theorem clockOf_end {ns : List Int} (h : 2 ≤ ns.length) {k : Nat} (hk : ns.getD 1 0 = k) (k64 : k ≤ 64) (hl : 2 + 2 * k < ns.length) {m : Int} (em : ns.getD (2 + 2 * k) 0 = m) (hm : m = 0 ∨ m = 2) (hn : (ns.length : Int) = 2 + 2 * k + 1 + 5 * m) :
    Tm.clockOf ns = if (Tm.offsetOk (ns.getD 0 0) && (areChg (chgs k (ns.drop 2)) && areRul (rulL ns (2 + 2 * k) m))) = true then some (Ck.to ⟨ns.getD 0 0, chgs k (ns.drop 2), rulL ns (2 + 2 * k) m⟩) else none := by
  rw [clockOf_at h hk k64 hl, em]
  rcases hm with rfl | rfl
  · rw [show Tm.natIn 0 2 0 = some 0 from rfl]
    simp only [Tm.rulesOf, Option.bind_some]
    rw [List.drop_eq_nil_of_le (by omega)]
    have er : rulL ns (2 + 2 * k) 0 = [] := by unfold rulL; rw [if_neg (by omega)]
    rw [er]
    unfold areChg
    show (if _ ∧ _ ∧ _ ∧ _ ∧ _ ∧ true = true then _ else _) = if (_ && (_ && (true && true))) = true then _ else _
    generalize Tm.offsetOk (ns.getD 0 0) = p1
    generalize ((chgs k (List.drop 2 ns)).all fun c => Tm.offsetOk c.snd) = p2
    generalize Tm.risingBy (chgs k (List.drop 2 ns)) = p3
    cases p1 <;> cases p2 <;> cases p3 <;> simp [Ck.to]
  · rw [show Tm.natIn 0 2 2 = some 2 from rfl]
    simp only [Option.bind_some]
    rw [rulesOf_two, r5At_drop, r5At_drop]
    have e1 : 2 + 2 * k + 1 + 5 = 2 + 2 * k + 6 := by omega
    rw [e1]
    have el : 10 ≤ (ns.drop (2 + 2 * k + 1)).length := by simp; omega
    have ed : (ns.drop (2 + 2 * k + 1)).drop 10 = [] := List.drop_eq_nil_of_le (by simp; omega)
    unfold rulL
    rw [if_pos rfl]
    show _ = if (Tm.offsetOk (ns.getD 0 0) && (areChg (chgs k (ns.drop 2)) && (([r5At ns (2 + 2 * k + 1), r5At ns (2 + 2 * k + 6)].all R5.ok) && !meetM (r5At ns (2 + 2 * k + 1)) (r5At ns (2 + 2 * k + 6))))) = true then _ else _
    by_cases a : (r5At ns (2 + 2 * k + 1 + 0)).ok = true <;> by_cases b : (r5At ns (2 + 2 * k + 6)).ok = true
    · rw [if_pos ⟨el, a, b⟩]
      simp only [Option.bind_some, ed]
      have ap := apart_eq (R5.ok_iff.mp a) (R5.ok_iff.mp b)
      rw [ap]
      unfold areChg
      simp only [Nat.add_zero] at a ⊢
      rw [List.all_cons, List.all_cons, List.all_nil, a, b]
      generalize Tm.offsetOk (ns.getD 0 0) = p1
      generalize ((chgs k (List.drop 2 ns)).all fun c => Tm.offsetOk c.snd) = p2
      generalize Tm.risingBy (chgs k (List.drop 2 ns)) = p3
      generalize meetM (r5At ns (2 + 2 * k + 1)) (r5At ns (2 + 2 * k + 6)) = p4
      cases p1 <;> cases p2 <;> cases p3 <;> cases p4 <;> simp [Ck.to]
    · rw [if_neg (fun q => b q.2.2)]
      simp [b]
    · rw [if_neg (fun q => a q.2.1)]
      simp only [Nat.add_zero] at a
      simp [a]
    · rw [if_neg (fun q => a q.2.1)]
      simp only [Nat.add_zero] at a
      simp [a]
end Cc
set_option maxHeartbeats 4000000
set_option linter.unusedSimpArgs false
namespace Cc
/-! ## A recurrence of numbers -/
theorem mapM_some {α β : Type} (f : α → Option β) (g : α → β) : ∀ (l : List α), (∀ x ∈ l, f x = some (g x)) → l.mapM f = some (l.map g)
  | [], _ => rfl
  | a :: l, h => by
    rw [List.mapM_cons, h a List.mem_cons_self, mapM_some f g l (fun x hx => h x (List.mem_cons_of_mem _ hx))]
    rfl
theorem mapM_none {α β : Type} (f : α → Option β) : ∀ (l : List α), (∃ x ∈ l, f x = none) → l.mapM f = none
  | [], h => by obtain ⟨_, h, _⟩ := h; cases h
  | a :: l, h => by
    rw [List.mapM_cons]
    cases e : f a with
    | none => rfl
    | some b =>
      have : ∃ x ∈ l, f x = none := by
        obtain ⟨x, hx, hn⟩ := h
        rcases List.mem_cons.mp hx with rfl | hx
        · rw [e] at hn; cases hn
        · exact ⟨x, hx, hn⟩
      rw [mapM_none f l this]
      rfl
/-- the months of a recurrence -/
def monOk (l : List Int) : Bool := l.all fun m => decide (1 ≤ m ∧ m ≤ 12)
theorem months_eq (l : List Int) : l.mapM (Tm.natIn 1 12) = if monOk l = true then some (l.map Int.toNat) else none := by
  by_cases h : monOk l = true
  · rw [if_pos h]
    refine mapM_some _ _ l fun x hx => ?_
    have := of_decide_eq_true (List.all_eq_true.mp h x hx)
    unfold Tm.natIn
    rw [if_pos (by omega)]
  · rw [if_neg h]
    refine mapM_none _ l ?_
    unfold monOk at h
    rw [List.all_eq_true] at h
    obtain ⟨x, h⟩ := Classical.not_forall.mp h
    obtain ⟨hx, h⟩ := Classical.not_imp.mp h
    refine ⟨x, hx, ?_⟩
    unfold Tm.natIn
    rw [if_neg]
    intro q
    exact h (decide_eq_true (by omega))
/-- the pairs of a recurrence -/
def parOk (l : List (Int × Int)) : Bool := l.all fun x => decide ((0 ≤ x.2 ∧ x.2 ≤ 6) ∧ ((1 ≤ x.1 ∧ x.1 ≤ 5) ∨ (-5 ≤ x.1 ∧ x.1 ≤ -1)))
def parTo (x : Int × Int) : Int × Nat := (x.1, x.2.toNat)
theorem nths_eq (l : List (Int × Int)) : Tm.nthsOf l = if parOk l = true then some (l.map parTo) else none := by
  unfold Tm.nthsOf
  by_cases h : parOk l = true
  · rw [if_pos h]
    refine mapM_some _ _ l fun x hx => ?_
    have := of_decide_eq_true (List.all_eq_true.mp h x hx)
    unfold Tm.natIn
    rw [if_pos (by omega), Option.bind_some, if_pos this.2]
    rfl
  · rw [if_neg h]
    refine mapM_none _ l ?_
    unfold parOk at h
    rw [List.all_eq_true] at h
    obtain ⟨x, h⟩ := Classical.not_forall.mp h
    obtain ⟨hx, h⟩ := Classical.not_imp.mp h
    refine ⟨x, hx, ?_⟩
    have h : ¬ ((0 ≤ x.2 ∧ x.2 ≤ 6) ∧ ((1 ≤ x.1 ∧ x.1 ≤ 5) ∨ (-5 ≤ x.1 ∧ x.1 ≤ -1))) := fun q => h (decide_eq_true q)
    unfold Tm.natIn
    by_cases c : 0 ≤ x.2 ∧ x.2 ≤ 6
    · rw [if_pos (by omega), Option.bind_some, if_neg (fun q => h ⟨c, q⟩)]
    · rw [if_neg (by omega)]
      rfl
/-- a recurrence as it is told: by, every, from, has, until, days, months, pairs -/
structure Rc where
  by_ : Int
  every : Int
  from_ : Int
  has : Int
  until_ : Int
  days : List Int
  months : List Int
  pairs : List (Int × Int)
def Rc.kind (r : Rc) : Bool := if r.by_ = 0 then (r.days.isEmpty && r.pairs.isEmpty) else if r.by_ = 1 then (!r.days.isEmpty && (r.days.all (fun d => decide (0 ≤ d) && decide (d ≤ 6)) && r.pairs.isEmpty)) else (!(r.days.isEmpty && r.pairs.isEmpty) && r.days.all fun d => (decide (1 ≤ d) && decide (d ≤ 31)) || (decide (-31 ≤ d) && decide (d ≤ -1)))
def Rc.to (r : Rc) : Tm.Recur := ⟨r.by_.toNat, r.days, r.every.toNat, r.from_, r.months.map Int.toNat, r.pairs.map parTo, if r.has = 1 then some r.until_ else none⟩
structure Rc.Ok (r : Rc) : Prop where
  by1 : 0 ≤ r.by_
  by2 : r.by_ ≤ 3
  ev1 : 1 ≤ r.every
  ev2 : r.every ≤ 1000
  has1 : r.has = 0 ∨ r.has = 1
  frm : Tm.isDay r.from_ = true
  unt : if r.has = 1 then Tm.isDay r.until_ = true else r.until_ = 0
  rd : Tm.risingInts r.days = true
  rm : Tm.risingInts r.months = true
  rp : Tm.risingPairs (r.pairs.map parTo) = true
  mon : monOk r.months = true
  par : parOk r.pairs = true
  kind : r.kind = true
/-- the shape of the numbers: how many there are of each -/
structure Shape (ns : List Int) (nd nm nq : Nat) : Prop where
  len : ns.length = 8 + nd + nm + 2 * nq
  d : ns.getD 5 0 = nd
  m : ns.getD (6 + nd) 0 = nm
  q : ns.getD (7 + nd + nm) 0 = nq
  d62 : nd ≤ 62
  m12 : nm ≤ 12
  q70 : nq ≤ 70
def rcOf (ns : List Int) (nd nm nq : Nat) : Rc := ⟨ns.getD 0 0, ns.getD 1 0, ns.getD 2 0, ns.getD 3 0, ns.getD 4 0, (ns.drop 6).take nd, (ns.drop (7 + nd)).take nm, chgs nq (ns.drop (8 + nd + nm))⟩
theorem six_of : ∀ {ns : List Int}, 6 ≤ ns.length → ns = ns.getD 0 0 :: ns.getD 1 0 :: ns.getD 2 0 :: ns.getD 3 0 :: ns.getD 4 0 :: ns.getD 5 0 :: ns.drop 6
  | a :: b :: c :: d :: e :: f :: l, _ => by simp
  | [], h => by simp at h
  | [_], h => by simp at h
  | [_, _], h => by simp at h
  | [_, _, _], h => by simp at h
  | [_, _, _, _], h => by simp at h
  | [_, _, _, _, _], h => by simp at h
theorem drop_cons {ns : List Int} {k : Nat} (h : k < ns.length) : ns.drop k = ns.getD k 0 :: ns.drop (k + 1) := by
  rw [List.drop_eq_getElem_cons h]
  simp [List.getD, List.getElem?_eq_getElem h]
theorem recurOf_short {ns : List Int} (h : ns.length < 6) : Tm.recurOf ns = none := by
  match ns, h with
  | [], _ => rfl
  | [_], _ => rfl
  | [_, _], _ => rfl
  | [_, _, _], _ => rfl
  | [_, _, _, _], _ => rfl
  | [_, _, _, _, _], _ => rfl
  | _ :: _ :: _ :: _ :: _ :: _ :: _, h => simp at h; omega
/-- the numbers tell a recurrence just where their shape is right and what they tell is one -/
theorem recurOf_some {ns : List Int} {nd nm nq : Nat} (S : Shape ns nd nm nq) (ok : (rcOf ns nd nm nq).Ok) : Tm.recurOf ns = some (rcOf ns nd nm nq).to := by
  have e := six_of (ns := ns) (by have := S.len; omega)
  have hl := S.len
  conv => lhs; rw [e]
  unfold Tm.recurOf
  simp only
  have n1 : Tm.natIn 0 3 (ns.getD 0 0) = some (ns.getD 0 0).toNat := by
    have a := ok.by1; have b := ok.by2
    unfold rcOf at a b
    simp only at a b
    unfold Tm.natIn
    rw [if_pos (by omega)]
  have n2 : Tm.natIn 1 1000 (ns.getD 1 0) = some (ns.getD 1 0).toNat := by
    have a := ok.ev1; have b := ok.ev2
    unfold rcOf at a b
    simp only at a b
    unfold Tm.natIn
    rw [if_pos (by omega)]
  have n3 : Tm.natIn 0 1 (ns.getD 3 0) = some (ns.getD 3 0).toNat := by
    have a := ok.has1
    unfold rcOf at a
    simp only at a
    unfold Tm.natIn
    rw [if_pos (by omega)]
  have n4 : Tm.natIn 0 62 (ns.getD 5 0) = some nd := by
    rw [S.d]
    have := S.d62
    unfold Tm.natIn
    rw [if_pos (by omega), Int.toNat_natCast]
  rw [n1, n2, n3, n4]
  simp only
  have p1 : Tm.someOf nd (ns.drop 6) = some ((ns.drop 6).take nd, ns.getD (6 + nd) 0 :: ns.drop (7 + nd)) := by
    unfold Tm.someOf
    rw [if_pos (by simp; omega), List.drop_drop, drop_cons (ns := ns) (k := 6 + nd) (by omega)]
    rw [show 6 + nd + 1 = 7 + nd by omega]
  rw [p1]
  simp only [Option.bind_some]
  have n5 : Tm.natIn 0 12 (ns.getD (6 + nd) 0) = some nm := by
    rw [S.m]
    have := S.m12
    unfold Tm.natIn
    rw [if_pos (by omega), Int.toNat_natCast]
  rw [n5]
  simp only [Option.bind_some]
  have p2 : Tm.someOf nm (ns.drop (7 + nd)) = some ((ns.drop (7 + nd)).take nm, ns.getD (7 + nd + nm) 0 :: ns.drop (8 + nd + nm)) := by
    unfold Tm.someOf
    rw [if_pos (by simp; omega), List.drop_drop, drop_cons (ns := ns) (k := 7 + nd + nm) (by omega)]
    rw [show 7 + nd + nm + 1 = 8 + nd + nm by omega]
  rw [p2]
  simp only [Option.bind_some]
  have n6 : Tm.natIn 0 70 (ns.getD (7 + nd + nm) 0) = some nq := by
    rw [S.q]
    have := S.q70
    unfold Tm.natIn
    rw [if_pos (by omega), Int.toNat_natCast]
  rw [n6]
  simp only [Option.bind_some]
  rw [pairsOf_eq nq (ns.drop (8 + nd + nm)) (by simp; omega)]
  simp only [Option.bind_some]
  have m1 := ok.mon
  have m2 := ok.par
  unfold rcOf at m1 m2
  simp only at m1 m2
  rw [months_eq, if_pos m1]
  simp only [Option.bind_some]
  rw [nths_eq, if_pos m2]
  simp only [Option.bind_some]
  have k := ok.kind
  rw [if_pos]
  · have h1 := ok.has1
    unfold Rc.to rcOf
    simp only
    congr 1
    congr 1
    unfold rcOf at h1
    simp only at h1
    rcases h1 with h1 | h1 <;> rw [h1] <;> rfl
  · have h1 := ok.has1
    have hu := ok.unt
    have hb1 := ok.by1
    have hb2 := ok.by2
    have r1 := ok.rd
    have r2 := ok.rm
    have r3 := ok.rp
    have r4 := ok.frm
    unfold Rc.kind at k
    unfold rcOf at h1 hu k hb1 hb2 r1 r2 r3 r4
    simp only at h1 hu k hb1 hb2 r1 r2 r3 r4
    refine ⟨?_, r4, ?_, r1, r2, r3, ?_⟩
    · rw [List.drop_drop]
      exact List.drop_eq_nil_of_le (by omega)
    · rcases h1 with h1 | h1
      · rw [h1] at hu ⊢
        simp at hu ⊢
        exact hu
      · rw [h1] at hu ⊢
        simp at hu ⊢
        exact hu
    · have : ns.getD 0 0 = 0 ∨ ns.getD 0 0 = 1 ∨ ns.getD 0 0 = 2 ∨ ns.getD 0 0 = 3 := by omega
      rcases this with z | z | z | z <;> rw [z] at k ⊢ <;> simp at k ⊢ <;> exact k
theorem natIn_some {lo hi : Nat} {z : Int} {n : Nat} (h : Tm.natIn lo hi z = some n) : (lo : Int) ≤ z ∧ z ≤ (hi : Int) ∧ z = n := by
  unfold Tm.natIn at h
  split at h
  · next q =>
    have := Option.some.inj h
    omega
  · cases h
theorem someOf_some {n : Nat} {l : List Int} {x : List Int × List Int} (h : Tm.someOf n l = some x) : n ≤ l.length ∧ x = (l.take n, l.drop n) := by
  unfold Tm.someOf at h
  split at h
  · next q => exact ⟨q, (Option.some.inj h).symm⟩
  · cases h
theorem pairsOf_some {n : Nat} {l : List Int} {x : List (Int × Int) × List Int} (h : Tm.pairsOf n l = some x) : 2 * n ≤ l.length ∧ x = (chgs n l, l.drop (2 * n)) := by
  by_cases c : 2 * n ≤ l.length
  · rw [pairsOf_eq n l c] at h
    exact ⟨c, (Option.some.inj h).symm⟩
  · rw [pairsOf_none n l (by omega)] at h
    cases h
theorem head_drop {ns : List Int} {k : Nat} {m : Int} {s : List Int} (h : ns.drop k = m :: s) : k < ns.length ∧ ns.getD k 0 = m ∧ ns.drop (k + 1) = s := by
  have hl : k < ns.length := by
    by_cases q : k < ns.length
    · exact q
    · rw [List.drop_eq_nil_of_le (by omega)] at h
      cases h
  rw [drop_cons hl] at h
  exact ⟨hl, (List.cons.inj h).1, (List.cons.inj h).2⟩
theorem recurOf_inv {ns : List Int} {r : Tm.Recur} (h : Tm.recurOf ns = some r) : ∃ nd nm nq, Shape ns nd nm nq ∧ (rcOf ns nd nm nq).Ok ∧ r = (rcOf ns nd nm nq).to := by
  by_cases h6 : ns.length < 6
  · rw [recurOf_short h6] at h
    cases h
  have e := six_of (ns := ns) (by omega)
  have h' := h
  rw [e] at h
  unfold Tm.recurOf at h
  simp only at h
  cases n1 : Tm.natIn 0 3 (ns.getD 0 0) with
  | none => rw [n1] at h; cases h
  | some b =>
  cases n2 : Tm.natIn 1 1000 (ns.getD 1 0) with
  | none => rw [n1, n2] at h; cases h
  | some ev =>
  cases n3 : Tm.natIn 0 1 (ns.getD 3 0) with
  | none => rw [n1, n2, n3] at h; cases h
  | some has =>
  cases n4 : Tm.natIn 0 62 (ns.getD 5 0) with
  | none => rw [n1, n2, n3, n4] at h; cases h
  | some nd =>
  rw [n1, n2, n3, n4] at h
  simp only at h
  cases p1 : Tm.someOf nd (ns.drop 6) with
  | none => rw [p1] at h; cases h
  | some x =>
  rw [p1] at h
  simp only [Option.bind_some] at h
  obtain ⟨l1, rfl⟩ := someOf_some p1
  simp only at h
  cases d1 : (ns.drop 6).drop nd with
  | nil => rw [d1] at h; cases h
  | cons m s =>
  rw [d1] at h
  simp only at h
  rw [List.drop_drop] at d1
  obtain ⟨k1, e1, rfl⟩ := head_drop d1
  cases n5 : Tm.natIn 0 12 m with
  | none => rw [n5] at h; cases h
  | some nm =>
  rw [n5] at h
  simp only [Option.bind_some] at h
  cases p2 : Tm.someOf nm (ns.drop (6 + nd + 1)) with
  | none => rw [p2] at h; cases h
  | some y =>
  rw [p2] at h
  simp only [Option.bind_some] at h
  obtain ⟨l2, rfl⟩ := someOf_some p2
  simp only at h
  cases d2 : (ns.drop (6 + nd + 1)).drop nm with
  | nil => rw [d2] at h; cases h
  | cons q t =>
  rw [d2] at h
  simp only at h
  rw [List.drop_drop] at d2
  obtain ⟨k2, e2, rfl⟩ := head_drop d2
  cases n6 : Tm.natIn 0 70 q with
  | none => rw [n6] at h; cases h
  | some nq =>
  rw [n6] at h
  simp only [Option.bind_some] at h
  cases p3 : Tm.pairsOf nq (ns.drop (6 + nd + 1 + nm + 1)) with
  | none => rw [p3] at h; cases h
  | some z =>
  rw [p3] at h
  simp only [Option.bind_some] at h
  obtain ⟨l3, rfl⟩ := pairsOf_some p3
  simp only at h
  rw [months_eq] at h
  by_cases mo : monOk ((ns.drop (6 + nd + 1)).take nm) = true
  case neg => rw [if_neg mo] at h; cases h
  rw [if_pos mo] at h
  simp only [Option.bind_some] at h
  rw [nths_eq] at h
  by_cases pa : parOk (chgs nq (ns.drop (6 + nd + 1 + nm + 1))) = true
  case neg => rw [if_neg pa] at h; cases h
  rw [if_pos pa] at h
  simp only [Option.bind_some] at h
  rw [Option.ite_none_right_eq_some] at h
  obtain ⟨c, _⟩ := h
  obtain ⟨c1, c2, c3, c4, c5, c6, c7⟩ := c
  obtain ⟨b1, b2, b3⟩ := natIn_some n1
  obtain ⟨v1, v2, v3⟩ := natIn_some n2
  obtain ⟨h1, h2, h3⟩ := natIn_some n3
  obtain ⟨g1, g2, g3⟩ := natIn_some n4
  obtain ⟨i1, i2, i3⟩ := natIn_some n5
  obtain ⟨j1, j2, j3⟩ := natIn_some n6
  have a7 : 6 + nd + 1 = 7 + nd := by omega
  have a8 : 6 + nd + 1 + nm + 1 = 8 + nd + nm := by omega
  have a9 : 6 + nd + 1 + nm = 7 + nd + nm := by omega
  rw [a8] at l3 c1 c6 c7 pa p3
  rw [a7] at l2 c5 mo
  rw [a9] at e2
  rw [List.drop_drop] at c1
  have c1 := List.drop_eq_nil_iff.mp c1
  simp only [List.length_drop] at l1 l2 l3
  have S : Shape ns nd nm nq := ⟨by omega, g3, by omega, by omega, by omega, by omega, by omega⟩
  have ok : (rcOf ns nd nm nq).Ok := by
    refine ⟨by show 0 ≤ ns.getD 0 0; omega, by show ns.getD 0 0 ≤ 3; omega, by show 1 ≤ ns.getD 1 0; omega, by show ns.getD 1 0 ≤ 1000; omega, by show ns.getD 3 0 = 0 ∨ ns.getD 3 0 = 1; omega, c2, ?_, c4, c5, c6, mo, pa, ?_⟩
    · show if ns.getD 3 0 = 1 then Tm.isDay (ns.getD 4 0) = true else ns.getD 4 0 = 0
      by_cases z : has = 1
      · subst z
        rw [if_pos (by omega)]
        simpa using c3
      · rw [if_neg (by omega)]
        rw [if_neg z] at c3
        simpa using c3
    · show Rc.kind _ = true
      unfold Rc.kind rcOf
      simp only
      rw [b3]
      have : b = 0 ∨ b = 1 ∨ b = 2 ∨ b = 3 := by omega
      rcases this with z | z | z | z <;> subst z <;> simp at c7 ⊢ <;> exact c7
  refine ⟨nd, nm, nq, S, ok, ?_⟩
  rw [recurOf_some S ok] at h'
  exact (Option.some.inj h').symm
end Cc
set_option maxHeartbeats 4000000
set_option linter.unusedSimpArgs false
namespace Cc
/-! ## Spans -/
/-- the month so many months on, by a date's year and month: its year, its number -/
def onY (y m k : Int) : Int := (y * 12 + m - 1 + k) / 12
def onM (y m k : Int) : Int := (y * 12 + m - 1 + k) % 12 + 1
theorem onM_range (y m k : Int) : 1 ≤ onM y m k ∧ onM y m k ≤ 12 := by
  unfold onM
  omega
def addM (y m d k how : Int) : Option Int :=
  if onY y m k < 1 ∨ 9999 < onY y m k then none
  else if d ≤ mlen (onY y m k) (onM y m k) then some (dayNum (onY y m k) (onM y m k) d)
  else if how = 0 then some (dayNum (onY y m k) (onM y m k) (mlen (onY y m k) (onM y m k)))
  else if how = 1 then (if Tm.isDay (dayNum (onY y m k) (onM y m k) (mlen (onY y m k) (onM y m k)) + 1) = true then some (dayNum (onY y m k) (onM y m k) (mlen (onY y m k) (onM y m k)) + 1) else none)
  else none
theorem addM_eq {n y m d k how : Int} (D : DateIs n y m d) (h0 : 0 ≤ how) : addM y m d k how = Tm.addMonths n k how.toNat := by
  unfold addM Tm.addMonths
  rw [dateOf_of D]
  simp only
  have r := onM_range y m k
  have hm : (((m.toNat : Nat) : Int)) = m := by have := D.m1; omega
  have hd : (((d.toNat : Nat) : Int)) = d := by have := D.d1; omega
  rw [hm, Int.fdiv_eq_ediv_of_nonneg _ (by decide)]
  have em : ((y * 12 + m - 1 + k) % 12).toNat + 1 = (onM y m k).toNat := by unfold onM; omega
  rw [em]
  have eY : (y * 12 + m - 1 + k) / 12 = onY y m k := rfl
  have e9 : (Tm.YEARS : Int) = 9999 := rfl
  rw [eY, e9]
  have e1 : (d.toNat ≤ Tm.monthDays (onY y m k) (onM y m k).toNat) ↔ (d ≤ mlen (onY y m k) (onM y m k)) := by
    rw [mlen_eq r.1 r.2]
    omega
  have e2 : Tm.dayOf (onY y m k) (onM y m k).toNat d.toNat = dayNum (onY y m k) (onM y m k) d := (dayNum_eq r.1 (by omega) (by have := D.d1; omega)).symm
  have e3 : Tm.dayOf (onY y m k) (onM y m k).toNat (Tm.monthDays (onY y m k) (onM y m k).toNat) = dayNum (onY y m k) (onM y m k) (mlen (onY y m k) (onM y m k)) := by
    have q := mlen_range (y := onY y m k) r.1 r.2
    rw [dayNum_eq r.1 (by omega) (by omega), mlen_eq r.1 r.2, Int.toNat_natCast]
  by_cases c1 : onY y m k < 1 ∨ 9999 < onY y m k
  · rw [if_pos c1, if_pos c1]
  · rw [if_neg c1, if_neg c1]
    by_cases c2 : d ≤ mlen (onY y m k) (onM y m k)
    · rw [if_pos c2, if_pos (e1.mpr c2)]
      rw [e2]
    · rw [if_neg c2, if_neg (fun q => c2 (e1.mp q))]
      rw [e3]
      by_cases c3 : how = 0
      · rw [if_pos c3, if_pos (show how.toNat = 0 by omega)]
      · rw [if_neg c3, if_neg (show ¬ how.toNat = 0 by omega)]
        by_cases c4 : how = 1
        · rw [if_pos c4, if_pos (show how.toNat = 1 by omega)]
        · rw [if_neg c4, if_neg (show ¬ how.toNat = 1 by omega)]
/-- a month's days lie between its first day and the next month's -/
theorem month_next {y m : Int} (m1 : 1 ≤ m) (m2 : m ≤ 12) : dayNum y m 1 + mlen y m = dayNum (onY y m 1) (onM y m 1) 1 := by
  by_cases c : m = 12
  · subst c
    have e1 : onY y 12 1 = y + 1 := by unfold onY; omega
    have e2 : onM y 12 1 = 1 := by unfold onM; omega
    rw [e1, e2]
    unfold dayNum mlen
    have := dbm_13 y
    have := dbm_one (y + 1)
    have e : dbm y (12 + 1) = dbm y 13 := rfl
    omega
  · have e1 : onY y m 1 = y := by unfold onY; omega
    have e2 : onM y m 1 = m + 1 := by unfold onM; omega
    rw [e1, e2]
    unfold dayNum mlen
    omega
/-- months by their running number: a later month's first day isn't before -/
def mfst (q : Int) : Int := dayNum (q / 12) (q % 12 + 1) 1
theorem mfst_step (q : Int) : mfst q + 28 ≤ mfst (q + 1) ∧ mfst (q + 1) = mfst q + mlen (q / 12) (q % 12 + 1) := by
  have h := month_next (y := q / 12) (m := q % 12 + 1) (by omega) (by omega)
  have r := mlen_range (y := q / 12) (m := q % 12 + 1) (by omega) (by omega)
  have e : mfst (q + 1) = dayNum (onY (q / 12) (q % 12 + 1) 1) (onM (q / 12) (q % 12 + 1) 1) 1 := by
    unfold mfst onY onM
    have e1 : (q / 12 * 12 + (q % 12 + 1) - 1 + 1) = q + 1 := by omega
    rw [e1]
  unfold mfst at *
  omega
theorem mfst_mono {a : Int} : ∀ (n : Nat), mfst a ≤ mfst (a + n)
  | 0 => by simp
  | n + 1 => by
    have := mfst_mono (a := a) n
    have h := mfst_step (a + n)
    have e : a + ((n + 1 : Nat) : Int) = a + n + 1 := by omega
    rw [e]
    omega
theorem mfst_le {a b : Int} (h : a ≤ b) : mfst a ≤ mfst b := by
  have := mfst_mono (a := a) (b - a).toNat
  rw [show a + ((b - a).toNat : Int) = b by omega] at this
  exact this
/-- a date's month by its running number -/
def mNo (y m : Int) : Int := y * 12 + m - 1
theorem mNo_fst {y m : Int} (m1 : 1 ≤ m) (m2 : m ≤ 12) : mfst (mNo y m) = dayNum y m 1 := by
  unfold mfst mNo
  rw [show (y * 12 + m - 1) / 12 = y by omega, show (y * 12 + m - 1) % 12 + 1 = m by omega]
theorem date_in_month {n y m d : Int} (D : DateIs n y m d) : mfst (mNo y m) ≤ n ∧ n < mfst (mNo y m + 1) := by
  have h := mfst_step (mNo y m)
  rw [mNo_fst D.m1 D.m2] at h ⊢
  have e : mlen (mNo y m / 12) (mNo y m % 12 + 1) = mlen y m := by
    unfold mNo
    have := D.m1
    have := D.m2
    rw [show (y * 12 + m - 1) / 12 = y by omega, show (y * 12 + m - 1) % 12 + 1 = m by omega]
  rw [e] at h
  have := D.day
  have := D.d1
  have := D.d2
  unfold dayNum at *
  omega
theorem month_order {a b ya ma da yb mb db : Int} (A : DateIs a ya ma da) (B : DateIs b yb mb db) (h : a ≤ b) : mNo ya ma ≤ mNo yb mb := by
  by_cases c : mNo ya ma ≤ mNo yb mb
  · exact c
  · have h1 := date_in_month A
    have h2 := date_in_month B
    have := mfst_le (a := mNo yb mb + 1) (b := mNo ya ma) (by omega)
    omega
/-! ## Counting -/
/-- a recurrence's days among so many from one on -/
def daysL (r : Tm.Recur) (a : Int) : Nat → List Int
  | 0 => []
  | f + 1 => if Tm.isOne r a = true then a :: daysL r (a + 1) f else daysL r (a + 1) f
theorem countFrom_eq (r : Tm.Recur) : ∀ (f : Nat) (a : Int) (n : Nat), Tm.countFrom r f a n = n + (daysL r a f).length
  | 0, _, _ => rfl
  | f + 1, a, n => by
    unfold Tm.countFrom daysL
    rw [countFrom_eq r f]
    split
    · rw [List.length_cons]
      omega
    · rfl
theorem nthFrom_eq (r : Tm.Recur) : ∀ (f : Nat) (a : Int) (k : Nat), Tm.nthFrom r f a k = (daysL r a f)[k]?
  | 0, _, _ => by simp [Tm.nthFrom, daysL]
  | f + 1, a, k => by
    unfold Tm.nthFrom daysL
    split
    · cases k with
      | zero => simp
      | succ k => simp [nthFrom_eq r f]
    · exact nthFrom_eq r f _ _
theorem daysL_add (r : Tm.Recur) : ∀ (f g : Nat) (a : Int), daysL r a (f + g) = daysL r a f ++ daysL r (a + f) g
  | 0, g, a => by simp [daysL]
  | f + 1, g, a => by
    have ih := daysL_add r f g (a + 1)
    rw [show a + 1 + (f : Int) = a + ((f + 1 : Nat) : Int) by omega] at ih
    rw [show f + 1 + g = (f + g) + 1 by omega]
    show (if Tm.isOne r a = true then a :: daysL r (a + 1) (f + g) else daysL r (a + 1) (f + g)) = (if Tm.isOne r a = true then a :: daysL r (a + 1) f else daysL r (a + 1) f) ++ daysL r (a + ((f + 1 : Nat) : Int)) g
    rw [ih]
    split
    · rfl
    · rfl
theorem daysL_none (r : Tm.Recur) : ∀ (f : Nat) (a : Int), (∀ i : Nat, i < f → Tm.isOne r (a + i) = false) → daysL r a f = []
  | 0, _, _ => rfl
  | f + 1, a, h => by
    unfold daysL
    have h0 := h 0 (by omega)
    simp only [Int.natCast_zero, Int.add_zero] at h0
    rw [h0, if_neg (by decide)]
    refine daysL_none r f (a + 1) fun i hi => ?_
    have := h (i + 1) (by omega)
    rw [show a + 1 + (i : Int) = a + ((i + 1 : Nat) : Int) by omega]
    exact this
end Cc
set_option maxHeartbeats 4000000
set_option linter.unusedSimpArgs false
namespace Cc
/-- added by how 0: the day, or the month's last -/
def add0 (y m d k : Int) : Int := dayNum (onY y m k) (onM y m k) (if d ≤ mlen (onY y m k) (onM y m k) then d else mlen (onY y m k) (onM y m k))
theorem addM0 {y m d k : Int} (h1 : 1 ≤ onY y m k) (h2 : onY y m k ≤ 9999) : addM y m d k 0 = some (add0 y m d k) := by
  unfold addM add0
  rw [if_neg (by omega)]
  split
  · rfl
  · rw [if_pos rfl]
theorem on_no (y m k : Int) : onY y m k = (mNo y m + k) / 12 ∧ onM y m k = (mNo y m + k) % 12 + 1 := ⟨rfl, rfl⟩
theorem far_eq {a b ya ma da yb mb db : Int} (A : DateIs a ya ma da) (B : DateIs b yb mb db) (h : a ≤ b) :
    Tm.far a b = if add0 ya ma da (mNo yb mb - mNo ya ma) ≤ b then (mNo yb mb - mNo ya ma, b - add0 ya ma da (mNo yb mb - mNo ya ma)) else (mNo yb mb - mNo ya ma - 1, b - add0 ya ma da (mNo yb mb - mNo ya ma - 1)) := by
  have ord := month_order A B h
  have a1 := A.m1; have a2 := A.m2; have a3 := A.y1; have a4 := A.y2
  have b1 := B.m1; have b2 := B.m2; have b3 := B.y1; have b4 := B.y2
  have ek : yb * 12 + ((mb.toNat : Nat) : Int) - (ya * 12 + ((ma.toNat : Nat) : Int)) = mNo yb mb - mNo ya ma := by
    unfold mNo
    omega
  have y0 : onY ya ma (mNo yb mb - mNo ya ma) = yb := by unfold onY mNo; omega
  have t0 : Tm.addMonths a (mNo yb mb - mNo ya ma) 0 = some (add0 ya ma da (mNo yb mb - mNo ya ma)) := by
    rw [← addM0 (by omega) (by omega)]
    exact (addM_eq A (how := 0) (by decide)).symm
  unfold Tm.far
  rw [dateOf_of A, dateOf_of B]
  simp only
  rw [ek, t0]
  simp only [Option.bind_some]
  by_cases c : add0 ya ma da (mNo yb mb - mNo ya ma) ≤ b
  · rw [if_pos c, if_pos c]
  · rw [if_neg c, if_neg c]
    have pos : mNo ya ma < mNo yb mb := by
      by_cases q : mNo ya ma = mNo yb mb
      · exfalso
        apply c
        rw [q, Int.sub_self]
        have e1 : onY ya ma 0 = ya := by unfold onY; omega
        have e2 : onM ya ma 0 = ma := by unfold onM; omega
        unfold add0
        rw [e1, e2, if_pos A.d2, A.day]
        exact h
      · omega
    have y1 : 1 ≤ onY ya ma (mNo yb mb - mNo ya ma - 1) ∧ onY ya ma (mNo yb mb - mNo ya ma - 1) ≤ 9999 := by
      unfold onY mNo at *
      omega
    have t1 : Tm.addMonths a (mNo yb mb - mNo ya ma - 1) 0 = some (add0 ya ma da (mNo yb mb - mNo ya ma - 1)) := by
      rw [← addM0 y1.1 y1.2]
      exact (addM_eq A (how := 0) (by decide)).symm
    rw [t1]
    rfl
end Cc
set_option maxHeartbeats 4000000
set_option linter.unusedSimpArgs false
namespace Cc
/-! ## Whether a day is one of a recurrence's -/
def toldM (r : Rc) (y m d w : Int) : Bool := decide (d ∈ r.days) || (decide (d - 1 - mlen y m ∈ r.days) || r.pairs.any fun x => decide (x.2 = w ∧ (x.1 = (d - 1) / 7 + 1 ∨ x.1 = -((mlen y m - d) / 7 + 1))))
def oneM (r : Rc) (n y m d fy fm : Int) : Bool :=
  decide (r.from_ ≤ n) && ((if r.has = 1 then decide (n ≤ r.until_) else true) && ((r.months.isEmpty || decide (m ∈ r.months)) &&
    (if r.by_ = 0 then decide ((n - r.from_) % r.every = 0)
    else if r.by_ = 1 then (decide (wdM n ∈ r.days) && decide (((n + 3) / 7 - (r.from_ + 3) / 7) % r.every = 0))
    else if r.by_ = 2 then (decide ((mNo y m - mNo fy fm) % r.every = 0) && toldM r y m d (wdM n))
    else (decide ((y - fy) % r.every = 0) && toldM r y m d (wdM n)))))
theorem contains_dec (l : List Int) (x : Int) : l.contains x = decide (x ∈ l) := by
  rw [Bool.eq_iff_iff, decide_eq_true_iff, List.contains_iff_mem]
theorem beq_dec (a b : Int) : (a == b) = decide (a = b) := rfl
theorem mon_contains {l : List Int} (h : monOk l = true) {m : Int} (m1 : 1 ≤ m) : (l.map Int.toNat).contains m.toNat = decide (m ∈ l) := by
  rw [Bool.eq_iff_iff, decide_eq_true_iff, List.contains_iff_mem, List.mem_map]
  constructor
  · rintro ⟨x, hx, e⟩
    have := of_decide_eq_true (List.all_eq_true.mp h x hx)
    have : x = m := by omega
    exact this ▸ hx
  · intro hx
    exact ⟨m, hx, rfl⟩
theorem told_eq {r : Rc} (ok : r.Ok) {n y m d : Int} (D : DateIs n y m d) : Tm.toldIn r.to n = toldM r y m d (wdM n) := by
  unfold Tm.toldIn toldM
  rw [dateOf_of D]
  simp only
  have d1 := D.d1
  have d2 := D.d2
  have hd : ((d.toNat : Nat) : Int) = d := by omega
  rw [hd, ← mlen_eq D.m1 D.m2]
  show (r.days.contains d || (r.days.contains (d - 1 - mlen y m) || (r.pairs.map parTo).any _)) = _
  rw [contains_dec, contains_dec]
  congr 2
  rw [List.any_map]
  have key : ∀ x ∈ r.pairs, ((fun (x : Int × Nat) => x.2 == Tm.weekday n && (x.1 == (((d.toNat - 1) / 7 : Nat) : Int) + 1 || x.1 == -((((Tm.monthDays y m.toNat - d.toNat) / 7 : Nat) : Int) + 1))) ∘ parTo) x = decide (x.2 = wdM n ∧ (x.1 = (d - 1) / 7 + 1 ∨ x.1 = -((mlen y m - d) / 7 + 1))) := by
    intro x hx
    have hp := of_decide_eq_true (List.all_eq_true.mp ok.par x hx)
    show (x.2.toNat == Tm.weekday n && (x.1 == (((d.toNat - 1) / 7 : Nat) : Int) + 1 || x.1 == -((((Tm.monthDays y m.toNat - d.toNat) / 7 : Nat) : Int) + 1))) = _
    have e1 : (((d.toNat - 1) / 7 : Nat) : Int) + 1 = (d - 1) / 7 + 1 := by omega
    have e2 : ((((Tm.monthDays y m.toNat - d.toNat) / 7 : Nat) : Int) + 1) = (mlen y m - d) / 7 + 1 := by
      rw [mlen_eq D.m1 D.m2] at d2 ⊢
      omega
    rw [e1, e2]
    have e3 : (x.2.toNat == Tm.weekday n) = decide (x.2 = wdM n) := by
      rw [Bool.eq_iff_iff, decide_eq_true_iff, beq_iff_eq, wd_eq]
      omega
    rw [e3, beq_dec, beq_dec, Bool.eq_iff_iff]
    simp only [Bool.and_eq_true, Bool.or_eq_true, decide_eq_true_eq]
  rw [Bool.eq_iff_iff, List.any_eq_true, List.any_eq_true]
  constructor
  · rintro ⟨x, hx, e⟩
    exact ⟨x, hx, by rw [← key x hx]; exact e⟩
  · rintro ⟨x, hx, e⟩
    exact ⟨x, hx, by rw [← key x hx] at e; exact e⟩
theorem isOne_eq {r : Rc} (ok : r.Ok) {n y m d fy fm fd : Int} (D : DateIs n y m d) (F : DateIs r.from_ fy fm fd) : Tm.isOne r.to n = oneM r n y m d fy fm := by
  unfold Tm.isOne oneM
  rw [isDay_iff.mpr D.cal, Bool.true_and]
  have dm := D.m1
  have fm1 := F.m1
  show (decide (r.from_ ≤ n) && ((match (if r.has = 1 then some r.until_ else none) with
    | some u => decide (n ≤ u)
    | none => true) && _)) = _
  congr 1
  congr 1
  · split <;> split <;> simp_all
  · show (let d := Tm.dateOf n
    let f := Tm.dateOf r.from_
    Tm.inMonths r.to d.2.1 && _) = _
    simp only
    rw [show r.to.from_ = r.from_ from rfl, dateOf_of D, dateOf_of F]
    simp only
    congr 1
    · unfold Tm.inMonths
      show ((r.months.map Int.toNat).isEmpty || (r.months.map Int.toNat).contains m.toNat) = _
      rw [mon_contains ok.mon dm, List.isEmpty_map]
    · have b1 := ok.by1
      have b2 := ok.by2
      have e1 := ok.ev1
      have ee : ((r.every.toNat : Nat) : Int) = r.every := by omega
      have eb : r.to.by_ = r.by_.toNat := rfl
      have ev : r.to.every = r.every.toNat := rfl
      have ed : r.to.days = r.days := rfl
      rw [eb, ev, ed, ee, told_eq ok D, contains_dec, ← wd_eq]
      rw [Int.fdiv_eq_ediv_of_nonneg _ (by decide), Int.fdiv_eq_ediv_of_nonneg _ (by decide)]
      have em : y * 12 + ((m.toNat : Nat) : Int) - (fy * 12 + ((fm.toNat : Nat) : Int)) = mNo y m - mNo fy fm := by
        unfold mNo
        omega
      rw [em]
      have : r.by_ = 0 ∨ r.by_ = 1 ∨ r.by_ = 2 ∨ r.by_ = 3 := by omega
      rcases this with z | z | z | z <;> rw [z] <;> rfl
end Cc
set_option maxHeartbeats 4000000
set_option linter.unusedSimpArgs false
namespace Cc
/-! ## Months by their running number -/
def monNo (n : Int) : Int := (Tm.dateOf n).1 * 12 + ((Tm.dateOf n).2.1 : Nat) - 1
theorem monNo_of {n y m d : Int} (D : DateIs n y m d) : monNo n = mNo y m := by
  unfold monNo mNo
  rw [dateOf_of D]
  have := D.m1
  simp only
  omega
theorem date_ex {n : Int} (c : -719162 ≤ n ∧ n ≤ 2932896) : ∃ y m d, DateIs n y m d := ⟨_, _, _, dateOf_all c.1 c.2⟩
theorem monNo_in {n : Int} (c : -719162 ≤ n ∧ n ≤ 2932896) : mfst (monNo n) ≤ n ∧ n < mfst (monNo n + 1) := by
  obtain ⟨y, m, d, D⟩ := date_ex c
  rw [monNo_of D]
  exact date_in_month D
theorem monNo_range {n : Int} (c : -719162 ≤ n ∧ n ≤ 2932896) : 12 ≤ monNo n ∧ monNo n ≤ 119999 := by
  obtain ⟨y, m, d, D⟩ := date_ex c
  rw [monNo_of D]
  have := D.m1; have := D.m2; have := D.y1; have := D.y2
  unfold mNo
  omega
theorem monNo_mono {a b : Int} (ca : -719162 ≤ a ∧ a ≤ 2932896) (cb : -719162 ≤ b ∧ b ≤ 2932896) (h : a ≤ b) : monNo a ≤ monNo b := by
  obtain ⟨y, m, d, D⟩ := date_ex ca
  obtain ⟨y', m', d', D'⟩ := date_ex cb
  rw [monNo_of D, monNo_of D']
  exact month_order D D' h
theorem monNo_uniq {n q : Int} (c : -719162 ≤ n ∧ n ≤ 2932896) (h1 : mfst q ≤ n) (h2 : n < mfst (q + 1)) : monNo n = q := by
  have h := monNo_in c
  by_cases c1 : monNo n < q
  · have := mfst_le (a := monNo n + 1) (b := q) (by omega)
    omega
  · by_cases c2 : q < monNo n
    · have := mfst_le (a := q + 1) (b := monNo n) (by omega)
      omega
    · omega
/-- a day of a month: its date -/
theorem date_month {n q : Int} (c : -719162 ≤ n ∧ n ≤ 2932896) (h1 : mfst q ≤ n) (h2 : n < mfst (q + 1)) : DateIs n (q / 12) (q % 12 + 1) (n - mfst q + 1) := by
  obtain ⟨y, m, d, D⟩ := date_ex c
  have e := monNo_uniq c h1 h2
  rw [monNo_of D] at e
  have m1 := D.m1
  have m2 := D.m2
  have ey : q / 12 = y := by unfold mNo at e; omega
  have em : q % 12 + 1 = m := by unfold mNo at e; omega
  have ed : n - mfst q + 1 = d := by
    rw [← e, mNo_fst m1 m2]
    have := D.day
    unfold dayNum at *
    omega
  rw [ey, em, ed]
  exact D
theorem mfst_lo : mfst 12 = -719162 := by decide
theorem mfst_hi : mfst 120000 = 2932897 := by decide
theorem mfst_cal {q : Int} (h1 : 12 ≤ q) (h2 : q ≤ 119999) : -719162 ≤ mfst q ∧ mfst (q + 1) ≤ 2932897 := by
  have a := mfst_le h1
  have b := mfst_le (a := q + 1) (b := 120000) (by omega)
  rw [mfst_lo] at a
  rw [mfst_hi] at b
  exact ⟨a, b⟩
/-! ## Spans, as the program goes -/
def isMon (q : Int) : Bool := decide (1 ≤ q / 12 ∧ q / 12 ≤ 9999)
def addP (n k how : Int) : Option Int :=
  if isMon (monNo n + k) = true then
    (if mfst (monNo n + k) + n - mfst (monNo n) < mfst (monNo n + k + 1) then some (mfst (monNo n + k) + n - mfst (monNo n))
    else if how = 0 then some (mfst (monNo n + k + 1) - 1) else if how = 1 then some (mfst (monNo n + k + 1)) else none)
  else none
theorem addP_eq {n k how : Int} (c : -719162 ≤ n ∧ n ≤ 2932896) (h0 : 0 ≤ how) : addP n k how = Tm.addMonths n k how.toNat := by
  obtain ⟨y, m, d, D⟩ := date_ex c
  rw [← addM_eq D h0]
  unfold addP addM isMon
  rw [monNo_of D]
  have oy := (on_no y m k).1
  have om := (on_no y m k).2
  have m1 := D.m1; have m2 := D.m2; have dd := D.day; have d1 := D.d1; have d2 := D.d2
  have s1 := mfst_step (mNo y m + k)
  rw [← oy, ← om] at s1
  rw [← oy]
  have f1 : mfst (mNo y m + k) = dayNum (onY y m k) (onM y m k) 1 := by rw [oy, om]; rfl
  have f0 : mfst (mNo y m) = dayNum y m 1 := mNo_fst m1 m2
  have r := onM_range y m k
  have ml := mlen_range (y := onY y m k) r.1 r.2
  have ml0 := mlen_range (y := y) m1 m2
  have g1 : n - mfst (mNo y m) = d - 1 := by
    rw [f0, ← dd]
    unfold dayNum
    omega
  have gd : ∀ z, dayNum (onY y m k) (onM y m k) z = mfst (mNo y m + k) + z - 1 := by
    intro z
    rw [f1]
    unfold dayNum
    omega
  rw [gd, gd]
  by_cases c1 : 1 ≤ onY y m k ∧ onY y m k ≤ 9999
  · rw [decide_eq_true c1, if_pos rfl, if_neg (show ¬ (onY y m k < 1 ∨ 9999 < onY y m k) by omega)]
    by_cases c2 : d ≤ mlen (onY y m k) (onM y m k)
    · rw [if_pos (show mfst (mNo y m + k) + n - mfst (mNo y m) < mfst (mNo y m + k + 1) by omega), if_pos c2]
      congr 1
      omega
    · rw [if_neg (show ¬ mfst (mNo y m + k) + n - mfst (mNo y m) < mfst (mNo y m + k + 1) by omega), if_neg c2]
      by_cases c3 : how = 0
      · rw [if_pos c3, if_pos c3]
        congr 1
        omega
      · rw [if_neg c3, if_neg c3]
        by_cases c4 : how = 1
        · rw [if_pos c4, if_pos c4]
          have e : mfst (mNo y m + k) + mlen (onY y m k) (onM y m k) - 1 + 1 = mfst (mNo y m + k + 1) := by omega
          rw [e, if_pos]
          rw [isDay_iff]
          have q1 : 12 ≤ mNo y m + k := by omega
          have q2 : mNo y m + k ≤ 119998 := by
            by_cases z : mNo y m + k ≤ 119998
            · exact z
            · exfalso
              have e3 : onM y m k = 12 := by omega
              have e4 : onY y m k = 9999 := by omega
              have : mlen (onY y m k) (onM y m k) = 31 := by rw [e3, e4]; decide
              omega
          have a1 := mfst_le (a := 12) (b := mNo y m + k + 1) (by omega)
          have a2 := mfst_le (a := mNo y m + k + 1) (b := 119999) (by omega)
          have a3 : mfst 119999 = 2932866 := by decide
          rw [mfst_lo] at a1
          omega
        · rw [if_neg c4, if_neg c4]
  · rw [decide_eq_false c1, if_neg (show ¬ false = true by decide), if_pos (show (onY y m k < 1 ∨ 9999 < onY y m k) by omega)]
/-- the span's day, by how 0, of a month that there is -/
theorem addP0 {n k y m d : Int} (D : DateIs n y m d) (h1 : 1 ≤ onY y m k) (h2 : onY y m k ≤ 9999) : addP n k 0 = some (add0 y m d k) := by
  rw [addP_eq D.cal (by decide), ← addM_eq D (how := 0) (by decide), addM0 h1 h2]
/-- how far, as the program goes -/
theorem farP_eq {a b : Int} (ca : -719162 ≤ a ∧ a ≤ 2932896) (cb : -719162 ≤ b ∧ b ≤ 2932896) (h : a ≤ b) : ∃ z, addP a (monNo b - monNo a) 0 = some z ∧
    (z ≤ b → Tm.far a b = (monNo b - monNo a, b - z)) ∧ (b < z → ∃ w, addP a (monNo b - monNo a - 1) 0 = some w ∧ Tm.far a b = (monNo b - monNo a - 1, b - w)) := by
  obtain ⟨ya, ma, da, A⟩ := date_ex ca
  obtain ⟨yb, mb, db, B⟩ := date_ex cb
  have ord := month_order A B h
  rw [monNo_of A, monNo_of B]
  have a1 := A.m1; have a2 := A.m2; have a3 := A.y1; have a4 := A.y2
  have b1 := B.m1; have b2 := B.m2; have b3 := B.y1; have b4 := B.y2
  have y0 : onY ya ma (mNo yb mb - mNo ya ma) = yb := by unfold onY mNo; omega
  have f := far_eq A B h
  refine ⟨_, addP0 A (by omega) (by omega), fun q => ?_, fun q => ?_⟩
  · rw [f, if_pos q]
  · have pos : mNo ya ma < mNo yb mb := by
      by_cases q2 : mNo ya ma = mNo yb mb
      · exfalso
        rw [q2, Int.sub_self] at q
        have e1 : onY ya ma 0 = ya := by unfold onY; omega
        have e2 : onM ya ma 0 = ma := by unfold onM; omega
        unfold add0 at q
        rw [e1, e2, if_pos A.d2, A.day] at q
        omega
      · omega
    have y1 : 1 ≤ onY ya ma (mNo yb mb - mNo ya ma - 1) ∧ onY ya ma (mNo yb mb - mNo ya ma - 1) ≤ 9999 := by
      unfold onY mNo at *
      omega
    exact ⟨_, addP0 A y1.1 y1.2, by rw [f, if_neg (by omega)]⟩
end Cc
set_option maxHeartbeats 4000000
set_option linter.unusedSimpArgs false
set_option linter.unusedVariables false
namespace Cc
/-! ## Counting days -/
def cntF (p : Int → Bool) (a : Int) : Nat → Nat
  | 0 => 0
  | f + 1 => (if p a = true then 1 else 0) + cntF p (a + 1) f
theorem cntF_add (p : Int → Bool) : ∀ (f g : Nat) (a : Int), cntF p a (f + g) = cntF p a f + cntF p (a + f) g
  | 0, g, a => by simp [cntF]
  | f + 1, g, a => by
    have ih := cntF_add p f g (a + 1)
    rw [show a + 1 + (f : Int) = a + ((f + 1 : Nat) : Int) by omega] at ih
    rw [show f + 1 + g = (f + g) + 1 by omega]
    show (if p a = true then 1 else 0) + cntF p (a + 1) (f + g) = (if p a = true then 1 else 0) + cntF p (a + 1) f + _
    omega
theorem cntF_congr {p q : Int → Bool} : ∀ (f : Nat) (a : Int), (∀ n, a ≤ n → n < a + f → p n = q n) → cntF p a f = cntF q a f
  | 0, _, _ => rfl
  | f + 1, a, h => by
    show (if p a = true then 1 else 0) + cntF p (a + 1) f = (if q a = true then 1 else 0) + cntF q (a + 1) f
    rw [h a (by omega) (by omega), cntF_congr f (a + 1) fun n h1 h2 => h n (by omega) (by omega)]
theorem cntF_none {p : Int → Bool} : ∀ (f : Nat) (a : Int), (∀ n, a ≤ n → n < a + f → p n = false) → cntF p a f = 0
  | 0, _, _ => rfl
  | f + 1, a, h => by
    show (if p a = true then 1 else 0) + cntF p (a + 1) f = 0
    rw [h a (by omega) (by omega), cntF_none f (a + 1) fun n h1 h2 => h n (by omega) (by omega)]
    rfl
theorem cntF_shift (p : Int → Bool) (s : Int) : ∀ (f : Nat) (a : Int), cntF (fun x => p (x + s)) a f = cntF p (a + s) f
  | 0, _ => rfl
  | f + 1, a => by
    show (if p (a + s) = true then 1 else 0) + cntF (fun x => p (x + s)) (a + 1) f = (if p (a + s) = true then 1 else 0) + cntF p (a + s + 1) f
    rw [cntF_shift p s f (a + 1), show a + 1 + s = a + s + 1 by omega]
/-- how many days from lo on to hi -/
def cn (p : Int → Bool) (lo hi : Int) : Nat := cntF p lo (hi - lo + 1).toNat
theorem cn_split (p : Int → Bool) {lo m hi : Int} (h1 : lo ≤ m + 1) (h2 : m ≤ hi) : cn p lo hi = cn p lo m + cn p (m + 1) hi := by
  unfold cn
  rw [show (hi - lo + 1).toNat = (m - lo + 1).toNat + (hi - (m + 1) + 1).toNat by omega, cntF_add]
  rw [show lo + ((m - lo + 1).toNat : Int) = m + 1 by omega]
theorem cn_congr {p q : Int → Bool} {lo hi : Int} (h : ∀ n, lo ≤ n → n ≤ hi → p n = q n) : cn p lo hi = cn q lo hi := cntF_congr _ _ fun n h1 h2 => h n h1 (by omega)
theorem cn_zero {p : Int → Bool} {lo hi : Int} (h : ∀ n, lo ≤ n → n ≤ hi → p n = false) : cn p lo hi = 0 := cntF_none _ _ fun n h1 h2 => h n h1 (by omega)
theorem cn_empty (p : Int → Bool) {lo hi : Int} (h : hi < lo) : cn p lo hi = 0 := cn_zero fun n h1 h2 => by omega
theorem cn_one (p : Int → Bool) (n : Int) : cn p n n = if p n = true then 1 else 0 := by
  unfold cn
  rw [show (n - n + 1).toNat = 0 + 1 by omega]
  show (if p n = true then 1 else 0) + 0 = _
  rw [Nat.add_zero]
theorem cn_snoc (p : Int → Bool) {lo hi : Int} (h : lo ≤ hi + 1) : cn p lo (hi + 1) = cn p lo hi + if p (hi + 1) = true then 1 else 0 := by
  rw [cn_split p (m := hi) h (by omega), cn_one]
theorem cn_trim {p : Int → Bool} {lo hi l h : Int} (a : lo ≤ l) (b : h ≤ hi) (c : l ≤ h + 1) (o : ∀ n, lo ≤ n → n ≤ hi → ¬ (l ≤ n ∧ n ≤ h) → p n = false) : cn p lo hi = cn p l h := by
  rw [cn_split p (m := l - 1) (by omega) (by omega), cn_zero (lo := lo) (hi := l - 1) fun n h1 h2 => o n h1 (by omega) (by omega)]
  rw [show l - 1 + 1 = l by omega, cn_split p (lo := l) (m := h) c b, cn_zero (lo := h + 1) (hi := hi) fun n h1 h2 => o n (by omega) h2 (by omega)]
  omega
/-! ## Lists of days -/
def dys (p : Int → Bool) (a : Int) : Nat → List Int
  | 0 => []
  | f + 1 => if p a = true then a :: dys p (a + 1) f else dys p (a + 1) f
theorem dys_len (p : Int → Bool) : ∀ (f : Nat) (a : Int), (dys p a f).length = cntF p a f
  | 0, _ => rfl
  | f + 1, a => by
    unfold dys cntF
    rw [← dys_len p f]
    split
    · rw [List.length_cons]
      omega
    · omega
theorem dys_add (p : Int → Bool) : ∀ (f g : Nat) (a : Int), dys p a (f + g) = dys p a f ++ dys p (a + f) g
  | 0, g, a => by simp [dys]
  | f + 1, g, a => by
    have ih := dys_add p f g (a + 1)
    rw [show a + 1 + (f : Int) = a + ((f + 1 : Nat) : Int) by omega] at ih
    rw [show f + 1 + g = (f + g) + 1 by omega]
    show (if p a = true then a :: dys p (a + 1) (f + g) else dys p (a + 1) (f + g)) = (if p a = true then a :: dys p (a + 1) f else dys p (a + 1) f) ++ dys p (a + ((f + 1 : Nat) : Int)) g
    rw [ih]
    split <;> rfl
theorem dys_more (p : Int → Bool) (a : Int) (f : Nat) : dys p a (f + 1) = if p (a + f) = true then dys p a f ++ [a + f] else dys p a f := by
  rw [dys_add p f 1 a]
  show dys p a f ++ (if p (a + f) = true then (a + f) :: [] else []) = _
  split <;> simp
theorem dys_filter (p q : Int → Bool) : ∀ (f : Nat) (a : Int), (dys p a f).filter q = dys (fun x => p x && q x) a f
  | 0, _ => rfl
  | f + 1, a => by
    unfold dys
    cases c1 : p a <;> cases c2 : q a <;> simp [c1, c2, dys_filter p q f]
theorem daysL_dys (r : Tm.Recur) : ∀ (f : Nat) (a : Int), daysL r a f = dys (Tm.isOne r) a f
  | 0, _ => rfl
  | f + 1, a => by
    unfold daysL dys
    rw [daysL_dys r f]
/-- the days from lo on to hi -/
def dl (p : Int → Bool) (lo hi : Int) : List Int := dys p lo (hi - lo + 1).toNat
theorem dl_len (p : Int → Bool) (lo hi : Int) : (dl p lo hi).length = cn p lo hi := dys_len _ _ _
theorem dl_split (p : Int → Bool) {lo m hi : Int} (h1 : lo ≤ m + 1) (h2 : m ≤ hi) : dl p lo hi = dl p lo m ++ dl p (m + 1) hi := by
  unfold dl
  rw [show (hi - lo + 1).toNat = (m - lo + 1).toNat + (hi - (m + 1) + 1).toNat by omega, dys_add]
  rw [show lo + ((m - lo + 1).toNat : Int) = m + 1 by omega]
theorem dl_nil {p : Int → Bool} {lo hi : Int} (h : ∀ n, lo ≤ n → n ≤ hi → p n = false) : dl p lo hi = [] := by
  apply List.eq_nil_of_length_eq_zero
  rw [dl_len]
  exact cn_zero h
theorem dl_trim {p : Int → Bool} {lo hi l h : Int} (a : lo ≤ l) (b : h ≤ hi) (c : l ≤ h + 1) (o : ∀ n, lo ≤ n → n ≤ hi → ¬ (l ≤ n ∧ n ≤ h) → p n = false) : dl p lo hi = dl p l h := by
  rw [dl_split p (m := l - 1) (by omega) (by omega), dl_nil (lo := lo) (hi := l - 1) fun n h1 h2 => o n h1 (by omega) (by omega)]
  rw [show l - 1 + 1 = l by omega, dl_split p (lo := l) (m := h) c b, dl_nil (lo := h + 1) (hi := hi) fun n h1 h2 => o n (by omega) h2 (by omega)]
  simp
theorem dl_at {p : Int → Bool} {lo hi d : Int} {k : Nat} (h1 : lo ≤ d) (h2 : d ≤ hi) (a : cn p lo (d - 1) ≤ k) (b : k < cn p lo d) : (dl p lo hi)[k]? = some d := by
  have s := cn_snoc p (lo := lo) (hi := d - 1) (by omega)
  rw [show d - 1 + 1 = d by omega] at s
  have one : p d = true := by
    by_cases q : p d = true
    · exact q
    · rw [if_neg q] at s
      omega
  rw [if_pos one] at s
  have e : cn p lo (d - 1) = k := by omega
  rw [dl_split p (m := d - 1) (by omega) (by omega), show d - 1 + 1 = d by omega, dl_split p (lo := d) (m := d) (by omega) h2]
  have ed : dl p d d = [d] := by
    unfold dl
    rw [show (d - d + 1).toNat = 0 + 1 by omega]
    show (if p d = true then d :: [] else []) = _
    rw [if_pos one]
  rw [ed, List.getElem?_append_right (by rw [dl_len]; omega), dl_len, e, Nat.sub_self]
  rfl
theorem count_cn (r : Tm.Recur) (a b : Int) : Tm.count r a b = cn (Tm.isOne r) a b := by
  unfold Tm.count
  split
  · next h => rw [cn_empty _ h]
  · rw [countFrom_eq, daysL_dys, dys_len]
    simp [cn]
theorem nth_dl (r : Tm.Recur) (a : Int) (k : Nat) : Tm.nth r a k = (dl (Tm.isOne r) a (a + 99999))[k]? := by
  unfold Tm.nth
  rw [nthFrom_eq, daysL_dys]
  unfold dl
  rw [show (a + 99999 - a + 1).toNat = Tm.SPAN by unfold Tm.SPAN; omega]
/-! ## Turns -/
theorem div_step {x t : Int} (ht : 0 < t) : (x + 1) / t = x / t + if (x + 1) % t = 0 then 1 else 0 := by
  have e := Int.mul_ediv_add_emod (x + 1) t
  have r1 := Int.emod_nonneg (x + 1) (show t ≠ 0 by omega)
  have r2 := Int.emod_lt_of_pos (x + 1) ht
  by_cases c : (x + 1) % t = 0
  · rw [if_pos c]
    have : x / t = (x + 1) / t - 1 ∧ x % t = t - 1 := (Int.ediv_emod_unique ht).mpr ⟨by rw [Int.mul_sub]; omega, by omega, by omega⟩
    omega
  · rw [if_neg c]
    have : x / t = (x + 1) / t ∧ x % t = (x + 1) % t - 1 := (Int.ediv_emod_unique ht).mpr ⟨by omega, by omega, by omega⟩
    omega
def turns (t : Int) (os : List Int) (lo hi : Int) : Int := (os.map fun o => (hi - o) / t - (lo - 1 - o) / t).sum
def hits (t : Int) (os : List Int) (n : Int) : Int := (os.map fun o => if (n - o) % t = 0 then (1 : Int) else 0).sum
theorem turns_step {t : Int} (ht : 0 < t) (lo hi : Int) : ∀ os : List Int, turns t os lo (hi + 1) = turns t os lo hi + hits t os (hi + 1)
  | [] => rfl
  | o :: os => by
    have ih := turns_step ht lo hi os
    unfold turns hits at *
    simp only [List.map_cons, List.sum_cons]
    rw [ih, show hi + 1 - o = hi - o + 1 by omega, div_step ht]
    omega
theorem turns_none (t lo : Int) : ∀ os : List Int, turns t os lo (lo - 1) = 0
  | [] => rfl
  | o :: os => by
    have ih := turns_none t lo os
    unfold turns at *
    simp only [List.map_cons, List.sum_cons]
    rw [ih]
    omega
theorem turns_cn {t : Int} (ht : 0 < t) {os : List Int} {p : Int → Bool} {lo : Int} : ∀ (f : Nat), (∀ n, lo ≤ n → n < lo + f → hits t os n = if p n = true then 1 else 0) → turns t os lo (lo - 1 + f) = (cn p lo (lo - 1 + f) : Nat)
  | 0, _ => by
    rw [show lo - 1 + ((0 : Nat) : Int) = lo - 1 by omega, turns_none, cn_empty _ (by omega)]
    rfl
  | f + 1, h => by
    have ih := turns_cn ht f fun n h1 h2 => h n h1 (by omega)
    rw [show lo - 1 + ((f + 1 : Nat) : Int) = lo - 1 + f + 1 by omega, turns_step ht, ih, cn_snoc _ (by omega), h _ (by omega) (by omega)]
    split <;> omega
theorem week_hit {n f e d : Int} (he : 1 ≤ e) (d0 : 0 ≤ d) (d6 : d ≤ 6) : (n - (f - wdM f + d)) % (7 * e) = 0 ↔ d = wdM n ∧ ((n + 3) / 7 - (f + 3) / 7) % e = 0 := by
  have x : n - (f - wdM f + d) = 7 * ((n + 3) / 7 - (f + 3) / 7) + (wdM n - d) := by
    unfold wdM
    omega
  rw [x]
  have w : 0 ≤ wdM n ∧ wdM n ≤ 6 := by unfold wdM; omega
  constructor
  · intro h
    have h7 : (7 * ((n + 3) / 7 - (f + 3) / 7) + (wdM n - d)) % 7 = 0 := by
      have dv : (7 * e) ∣ (7 * ((n + 3) / 7 - (f + 3) / 7) + (wdM n - d)) := Int.dvd_of_emod_eq_zero h
      exact Int.emod_eq_zero_of_dvd (Int.dvd_trans ⟨e, rfl⟩ dv)
    have ed : d = wdM n := by omega
    refine ⟨ed, ?_⟩
    rw [ed, Int.sub_self, Int.add_zero, Int.mul_emod_mul_of_pos _ _ (by decide)] at h
    omega
  · rintro ⟨rfl, h⟩
    rw [Int.sub_self, Int.add_zero, Int.mul_emod_mul_of_pos _ _ (by decide), h]
    rfl
theorem rising_pw : ∀ (l : List Int), Tm.risingInts l = true → l.Pairwise (· < ·)
  | [], _ => .nil
  | [a], _ => by simp
  | a :: b :: r, h => by
    unfold Tm.risingInts at h
    rw [Bool.and_eq_true, decide_eq_true_eq] at h
    have ih := rising_pw (b :: r) h.2
    refine List.pairwise_cons.mpr ⟨fun x hx => ?_, ih⟩
    rcases List.mem_cons.mp hx with rfl | hx
    · exact h.1
    · have := (List.pairwise_cons.mp ih).1 x hx
      omega
theorem week_hits {n f e : Int} (he : 1 ≤ e) : ∀ (ds : List Int), (∀ d ∈ ds, 0 ≤ d ∧ d ≤ 6) → ds.Pairwise (· < ·) →
    hits (7 * e) (ds.map fun d => f - wdM f + d) n = if wdM n ∈ ds ∧ ((n + 3) / 7 - (f + 3) / 7) % e = 0 then 1 else 0
  | [], _, _ => by simp [hits]
  | d :: ds, h, pw => by
    have pw' := List.pairwise_cons.mp pw
    have ih := week_hits (n := n) (f := f) he ds (fun x hx => h x (List.mem_cons_of_mem _ hx)) pw'.2
    have hd := h d List.mem_cons_self
    unfold hits at *
    simp only [List.map_cons, List.sum_cons]
    rw [ih]
    have wh := week_hit (n := n) (f := f) he hd.1 hd.2
    by_cases c : ((n + 3) / 7 - (f + 3) / 7) % e = 0
    · by_cases c2 : d = wdM n
      · have nm : ¬ wdM n ∈ ds := fun q => by
          have := pw'.1 _ q
          omega
        rw [if_pos (wh.mpr ⟨c2, c⟩), if_neg (fun q => nm q.1), if_pos ⟨by rw [c2]; exact List.mem_cons_self, c⟩]
        rfl
      · rw [if_neg (fun q => c2 (wh.mp q).1)]
        by_cases c3 : wdM n ∈ ds
        · rw [if_pos ⟨c3, c⟩, if_pos ⟨List.mem_cons_of_mem _ c3, c⟩]
          rfl
        · rw [if_neg (fun q => c3 q.1), if_neg]
          · rfl
          · rintro ⟨q, _⟩
            rcases List.mem_cons.mp q with q | q
            · exact c2 q.symm
            · exact c3 q
    · rw [if_neg (fun q => c (wh.mp q).2), if_neg (fun q => c q.2), if_neg (fun q => c q.2)]
      rfl
end Cc
set_option maxHeartbeats 4000000
set_option linter.unusedSimpArgs false
set_option linter.unusedVariables false
namespace Cc
/-! ## A recurrence's days, month by month -/
def Rc.last (r : Rc) : Int := if r.has = 1 then r.until_ else 2932896
def Rc.mons (r : Rc) : List Int := if r.months.isEmpty = true then [1, 2, 3, 4, 5, 6, 7, 8, 9, 10, 11, 12] else r.months
def Rc.orig (r : Rc) : List Int := if r.by_ = 0 then [r.from_] else if r.by_ = 1 then r.days.map (fun d => r.from_ - wdM r.from_ + d) else []
def Rc.turn (r : Rc) : Int := if r.by_ = 0 then r.every else 7 * r.every
def hasM (r : Rc) (q : Int) : Bool := decide (q % 12 + 1 ∈ r.mons) && (if r.by_ = 2 then decide ((q - monNo r.from_) % r.every = 0) else if r.by_ = 3 then decide ((q / 12 - monNo r.from_ / 12) % r.every = 0) else true)
def dayOfPair (len wd k w : Int) : Int := if 0 < k then 1 + (w - wd) % 7 + 7 * (k - 1) else len - ((wd + len - 1) % 7 - w) % 7 + 7 * (k + 1)
def dayOfDay (len x : Int) : Int := if 0 < x then x else len + 1 + x
def toldB (ds : List Int) (ps : List (Int × Int)) (len wd d : Int) : Bool := ds.any (fun x => decide (dayOfDay len x = d)) || ps.any (fun x => decide (dayOfPair len wd x.1 x.2 = d))
def toldL (ds : List Int) (ps : List (Int × Int)) (len wd : Int) : List Int := dys (toldB ds ps len wd) 1 len.toNat
theorem Rc.Ok.fcal {r : Rc} (ok : r.Ok) : -719162 ≤ r.from_ ∧ r.from_ ≤ 2932896 := isDay_iff.mp ok.frm
theorem Rc.Ok.lcal {r : Rc} (ok : r.Ok) : -719162 ≤ r.last ∧ r.last ≤ 2932896 := by
  have u := ok.unt
  unfold Rc.last
  split
  · next h => rw [if_pos h] at u; exact isDay_iff.mp u
  · omega
theorem isOne_out {r : Rc} (ok : r.Ok) {n : Int} (h : ¬ (r.from_ ≤ n ∧ n ≤ r.last)) : Tm.isOne r.to n = false := by
  cases e : Tm.isOne r.to n with
  | false => rfl
  | true =>
    exfalso
    apply h
    unfold Tm.isOne at e
    rw [Bool.and_eq_true, Bool.and_eq_true, Bool.and_eq_true] at e
    obtain ⟨e1, e2, e3, _⟩ := e
    have e1 := isDay_iff.mp e1
    have e2 : r.from_ ≤ n := of_decide_eq_true e2
    refine ⟨e2, ?_⟩
    replace e3 : (match (if r.has = 1 then some r.until_ else none) with
      | some u => decide (n ≤ u)
      | none => true) = true := e3
    unfold Rc.last
    split
    · next q =>
      rw [if_pos q] at e3
      exact of_decide_eq_true e3
    · omega
theorem told_in {r : Rc} (ok : r.Ok) {y m d wd : Int} (d1 : 1 ≤ d) (d2 : d ≤ mlen y m) : toldM r y m d ((wd + d - 1) % 7) = toldB r.days r.pairs (mlen y m) wd d := by
  unfold toldM toldB
  rw [← Bool.or_assoc]
  congr 1
  · rw [Bool.eq_iff_iff, Bool.or_eq_true, decide_eq_true_iff, decide_eq_true_iff, List.any_eq_true]
    constructor
    · rintro (h | h)
      · exact ⟨_, h, decide_eq_true (by unfold dayOfDay; rw [if_pos (by omega)])⟩
      · exact ⟨_, h, decide_eq_true (by unfold dayOfDay; rw [if_neg (by omega)]; omega)⟩
    · rintro ⟨x, hx, e⟩
      have e := of_decide_eq_true e
      unfold dayOfDay at e
      split at e
      · left
        rw [← e]
        exact hx
      · right
        rw [show d - 1 - mlen y m = x by omega]
        exact hx
  · rw [Bool.eq_iff_iff, List.any_eq_true, List.any_eq_true]
    have key : ∀ x ∈ r.pairs, decide (x.2 = (wd + d - 1) % 7 ∧ (x.1 = (d - 1) / 7 + 1 ∨ x.1 = -((mlen y m - d) / 7 + 1))) = true ↔ decide (dayOfPair (mlen y m) wd x.1 x.2 = d) = true := by
      intro x hx
      have hp := of_decide_eq_true (List.all_eq_true.mp ok.par x hx)
      rw [decide_eq_true_iff, decide_eq_true_iff]
      unfold dayOfPair
      generalize mlen y m = len at *
      obtain ⟨k, w⟩ := x
      simp only at hp ⊢
      split <;> omega
    constructor
    · rintro ⟨x, hx, e⟩
      exact ⟨x, hx, (key x hx).mp e⟩
    · rintro ⟨x, hx, e⟩
      exact ⟨x, hx, (key x hx).mpr e⟩
theorem mons_eq (r : Rc) {m : Int} (m1 : 1 ≤ m) (m2 : m ≤ 12) : (r.months.isEmpty || decide (m ∈ r.months)) = decide (m ∈ r.mons) := by
  unfold Rc.mons
  cases e : r.months.isEmpty with
  | true =>
    rw [if_pos rfl, Bool.true_or]
    symm
    rw [decide_eq_true_iff]
    have : m = 1 ∨ m = 2 ∨ m = 3 ∨ m = 4 ∨ m = 5 ∨ m = 6 ∨ m = 7 ∨ m = 8 ∨ m = 9 ∨ m = 10 ∨ m = 11 ∨ m = 12 := by omega
    rcases this with rfl|rfl|rfl|rfl|rfl|rfl|rfl|rfl|rfl|rfl|rfl|rfl <;> decide
  | false =>
    rw [if_neg (by decide), Bool.false_or]
theorem mfst_len (q : Int) : mfst (q + 1) - mfst q = mlen (q / 12) (q % 12 + 1) := by
  have := (mfst_step q).2
  omega
theorem one_in {r : Rc} (ok : r.Ok) {q n : Int} (c : -719162 ≤ n ∧ n ≤ 2932896) (h1 : mfst q ≤ n) (h2 : n < mfst (q + 1)) (hf : r.from_ ≤ n) (hl : n ≤ r.last) :
    Tm.isOne r.to n = (hasM r q && (if r.by_ = 0 then decide ((n - r.from_) % r.every = 0) else if r.by_ = 1 then decide (wdM n ∈ r.days ∧ ((n + 3) / 7 - (r.from_ + 3) / 7) % r.every = 0) else toldB r.days r.pairs (mfst (q + 1) - mfst q) (wdM (mfst q)) (n - mfst q + 1))) := by
  have D := date_month c h1 h2
  obtain ⟨fy, fm, fd, F⟩ := date_ex ok.fcal
  rw [isOne_eq ok D F]
  unfold oneM hasM
  have m1 := D.m1; have m2 := D.m2
  rw [decide_eq_true hf, Bool.true_and]
  have u : (if r.has = 1 then decide (n ≤ r.until_) else true) = true := by
    unfold Rc.last at hl
    split
    · next z => rw [if_pos z] at hl; exact decide_eq_true hl
    · rfl
  rw [u, Bool.true_and, mons_eq r m1 m2, Bool.and_assoc]
  congr 1
  have eq : mNo (q / 12) (q % 12 + 1) = q := by unfold mNo; omega
  have ef : monNo r.from_ = mNo fy fm := monNo_of F
  have efy : monNo r.from_ / 12 = fy := by
    rw [ef]
    have := F.m1; have := F.m2
    unfold mNo
    omega
  have ew : wdM n = (wdM (mfst q) + (n - mfst q + 1) - 1) % 7 := by unfold wdM; omega
  have tl : toldM r (q / 12) (q % 12 + 1) (n - mfst q + 1) (wdM n) = toldB r.days r.pairs (mfst (q + 1) - mfst q) (wdM (mfst q)) (n - mfst q + 1) := by
    rw [mfst_len, ew]
    exact told_in ok D.d1 D.d2
  rw [eq, ← ef, efy, tl]
  have b1 := ok.by1
  have b2 := ok.by2
  have : r.by_ = 0 ∨ r.by_ = 1 ∨ r.by_ = 2 ∨ r.by_ = 3 := by omega
  rcases this with z | z | z | z <;> rw [z]
  · rfl
  · simp only [if_neg (show ¬ (1 : Int) = 0 by decide), if_neg (show ¬ (1 : Int) = 2 by decide), if_neg (show ¬ (1 : Int) = 3 by decide), if_true, Bool.true_and]
    by_cases c1 : wdM n ∈ r.days <;> by_cases c2 : ((n + 3) / 7 - (r.from_ + 3) / 7) % r.every = 0 <;> simp [c1, c2]
  · rfl
  · rfl
/-- what is asked of a month and two days -/
structure InM (r : Rc) (q low high : Int) : Prop where
  cl : -719162 ≤ low
  ch : high ≤ 2932896
  fl : r.from_ ≤ low
  hl : high ≤ r.last
  lh : low ≤ high
  ql : mfst q ≤ high
  qh : low < mfst (q + 1)
def mxP (a b : Int) : Int := if b > a then b else a
def mnP (a b : Int) : Int := if b < a then b else a
/-- a recurrence's days in a month, from low on to high -/
def inL (r : Rc) (q low high : Int) : List Int := dl (Tm.isOne r.to) (mxP low (mfst q)) (mnP high (mfst (q + 1) - 1))
def inC (r : Rc) (q low high : Int) : Nat := cn (Tm.isOne r.to) (mxP low (mfst q)) (mnP high (mfst (q + 1) - 1))
theorem inL_len (r : Rc) (q low high : Int) : (inL r q low high).length = inC r q low high := dl_len _ _ _
theorem InM.bounds {r : Rc} {q low high : Int} (I : InM r q low high) {n : Int} (h1 : mxP low (mfst q) ≤ n) (h2 : n ≤ mnP high (mfst (q + 1) - 1)) : (-719162 ≤ n ∧ n ≤ 2932896) ∧ mfst q ≤ n ∧ n < mfst (q + 1) ∧ r.from_ ≤ n ∧ n ≤ r.last ∧ low ≤ n ∧ n ≤ high := by
  have := I.cl; have := I.ch; have := I.fl; have := I.hl
  unfold mxP at h1
  unfold mnP at h2
  split at h1 <;> split at h2 <;> omega
theorem in_not {r : Rc} (ok : r.Ok) {q low high : Int} (I : InM r q low high) (h : hasM r q = false) : inC r q low high = 0 := by
  refine cn_zero fun n h1 h2 => ?_
  obtain ⟨c, a1, a2, a3, a4, _⟩ := I.bounds h1 h2
  rw [one_in ok c a1 a2 a3 a4, h, Bool.false_and]
theorem week_days {r : Rc} (ok : r.Ok) (b : r.by_ = 1) : ∀ d ∈ r.days, 0 ≤ d ∧ d ≤ 6 := by
  have k := ok.kind
  unfold Rc.kind at k
  rw [b, if_neg (by decide), if_pos rfl, Bool.and_eq_true, Bool.and_eq_true] at k
  intro d hd
  have := List.all_eq_true.mp k.2.1 d hd
  rw [Bool.and_eq_true, decide_eq_true_iff, decide_eq_true_iff] at this
  exact this
theorem in_turn {r : Rc} (ok : r.Ok) {q low high : Int} (I : InM r q low high) (h : hasM r q = true) (b : r.by_ < 2) : turns r.turn r.orig (mxP low (mfst q)) (mnP high (mfst (q + 1) - 1)) = (inC r q low high : Nat) := by
  have lh := I.lh; have ql := I.ql; have qh := I.qh
  have b1 := ok.by1
  have e1 := ok.ev1
  have ms := (mfst_step q).1
  have hle : mxP low (mfst q) ≤ mnP high (mfst (q + 1) - 1) := by
    unfold mxP mnP
    split <;> split <;> omega
  have ht : 0 < r.turn := by unfold Rc.turn; split <;> omega
  unfold inC
  have key := turns_cn ht (os := r.orig) (p := Tm.isOne r.to) (lo := mxP low (mfst q)) (mnP high (mfst (q + 1) - 1) - mxP low (mfst q) + 1).toNat ?_
  · rw [show mxP low (mfst q) - 1 + ((mnP high (mfst (q + 1) - 1) - mxP low (mfst q) + 1).toNat : Int) = mnP high (mfst (q + 1) - 1) by omega] at key
    exact key
  · intro n h1 h2
    obtain ⟨c, a1, a2, a3, a4, _⟩ := I.bounds h1 (show n ≤ mnP high (mfst (q + 1) - 1) by omega)
    rw [one_in ok c a1 a2 a3 a4, h, Bool.true_and]
    unfold Rc.turn Rc.orig
    have : r.by_ = 0 ∨ r.by_ = 1 := by omega
    rcases this with z | z
    · simp only [z, if_true]
      unfold hits
      simp only [List.map_cons, List.map_nil, List.sum_cons, List.sum_nil, decide_eq_true_eq, Int.add_zero]
    · simp only [z, if_neg (show ¬ (1 : Int) = 0 by decide), if_true]
      rw [week_hits e1 r.days (week_days ok z) (rising_pw _ ok.rd)]
      simp only [decide_eq_true_eq]
theorem in_tab {r : Rc} (ok : r.Ok) {q low high : Int} (I : InM r q low high) (h : hasM r q = true) (b : 2 ≤ r.by_) :
    ((toldL r.days r.pairs (mfst (q + 1) - mfst q) (wdM (mfst q))).filter fun d => decide (low ≤ mfst q + d - 1 ∧ mfst q + d - 1 ≤ high)).length = inC r q low high := by
  have lh := I.lh; have ql := I.ql; have qh := I.qh
  have ms := (mfst_step q).1
  unfold toldL inC
  rw [dys_filter, dys_len]
  have c1 : cntF (fun x => toldB r.days r.pairs (mfst (q + 1) - mfst q) (wdM (mfst q)) x && decide (low ≤ mfst q + x - 1 ∧ mfst q + x - 1 ≤ high)) 1 (mfst (q + 1) - mfst q).toNat =
      cntF (fun n => toldB r.days r.pairs (mfst (q + 1) - mfst q) (wdM (mfst q)) (n - mfst q + 1) && decide (low ≤ n ∧ n ≤ high)) (mfst q) (mfst (q + 1) - mfst q).toNat := by
    have s := cntF_shift (fun n => toldB r.days r.pairs (mfst (q + 1) - mfst q) (wdM (mfst q)) (n - mfst q + 1) && decide (low ≤ n ∧ n ≤ high)) (mfst q - 1) (mfst (q + 1) - mfst q).toNat 1
    rw [show 1 + (mfst q - 1) = mfst q by omega] at s
    rw [← s]
    refine cntF_congr _ _ fun n _ _ => ?_
    rw [show n + (mfst q - 1) - mfst q + 1 = n by omega, show n + (mfst q - 1) = mfst q + n - 1 by omega]
  rw [c1]
  have c2 : cn (fun n => toldB r.days r.pairs (mfst (q + 1) - mfst q) (wdM (mfst q)) (n - mfst q + 1) && decide (low ≤ n ∧ n ≤ high)) (mfst q) (mfst (q + 1) - 1) = cn (fun n => toldB r.days r.pairs (mfst (q + 1) - mfst q) (wdM (mfst q)) (n - mfst q + 1) && decide (low ≤ n ∧ n ≤ high)) (mxP low (mfst q)) (mnP high (mfst (q + 1) - 1)) := by
    refine cn_trim ?_ ?_ ?_ fun n h1 h2 ho => ?_
    · unfold mxP; split <;> omega
    · unfold mnP; split <;> omega
    · unfold mxP mnP; split <;> split <;> omega
    · have : ¬ (low ≤ n ∧ n ≤ high) := fun z => ho (by unfold mxP mnP; split <;> split <;> omega)
      rw [decide_eq_false this, Bool.and_false]
  unfold cn at c2
  rw [show mfst (q + 1) - 1 - mfst q + 1 = mfst (q + 1) - mfst q by omega] at c2
  rw [c2]
  refine cn_congr fun n h1 h2 => ?_
  obtain ⟨c, a1, a2, a3, a4, a5, a6⟩ := I.bounds h1 h2
  rw [one_in ok c a1 a2 a3 a4, h, Bool.true_and, if_neg (show ¬ r.by_ = 0 by omega), if_neg (show ¬ r.by_ = 1 by omega)]
  rw [decide_eq_true ⟨a5, a6⟩, Bool.and_true]
theorem dys_range (p : Int → Bool) : ∀ (f : Nat) (a d : Int), d ∈ dys p a f → a ≤ d ∧ d < a + f
  | 0, _, _, h => by cases h
  | f + 1, a, d, h => by
    unfold dys at h
    split at h
    · rcases List.mem_cons.mp h with rfl | h
      · omega
      · have := dys_range p f (a + 1) d h
        omega
    · have := dys_range p f (a + 1) d h
      omega
theorem in_whole {r : Rc} (ok : r.Ok) {q low high : Int} (I : InM r q low high) (h : hasM r q = true) (b : 2 ≤ r.by_) (w1 : low ≤ mfst q) (w2 : mfst (q + 1) - 1 ≤ high) :
    (toldL r.days r.pairs (mfst (q + 1) - mfst q) (wdM (mfst q))).length = inC r q low high := by
  rw [← in_tab ok I h b, List.filter_eq_self.mpr]
  intro d hd
  have ms := (mfst_step q).1
  have := dys_range _ _ _ _ hd
  exact decide_eq_true (by omega)
/-- one month more -/
theorem inL_step {r : Rc} {q low high : Int} (I : InM r q low high) : dl (Tm.isOne r.to) low (mnP high (mfst (q + 1) - 1)) = dl (Tm.isOne r.to) low (mfst q - 1) ++ inL r q low high := by
  have lh := I.lh; have ql := I.ql; have qh := I.qh
  have ms := (mfst_step q).1
  unfold inL
  by_cases c : mfst q > low
  · rw [show mxP low (mfst q) = mfst q from if_pos c, dl_split (Tm.isOne r.to) (m := mfst q - 1) (by omega) (by unfold mnP; split <;> omega), show mfst q - 1 + 1 = mfst q by omega]
  · rw [show mxP low (mfst q) = low from if_neg c, dl_nil (lo := low) (hi := mfst q - 1) fun n h1 h2 => by omega, List.nil_append]
theorem inC_step {r : Rc} {q low high : Int} (I : InM r q low high) : cn (Tm.isOne r.to) low (mnP high (mfst (q + 1) - 1)) = cn (Tm.isOne r.to) low (mfst q - 1) + inC r q low high := by
  rw [← dl_len, ← dl_len, ← inL_len, inL_step I, List.length_append]
/-- the days from a on to b: those from low on to high -/
theorem dl_low {r : Rc} (ok : r.Ok) (a b : Int) : dl (Tm.isOne r.to) a b = if mnP b r.last < mxP a r.from_ then [] else dl (Tm.isOne r.to) (mxP a r.from_) (mnP b r.last) := by
  split
  · next h =>
    refine dl_nil fun n h1 h2 => isOne_out ok fun q => ?_
    unfold mxP mnP at h
    split at h <;> split at h <;> omega
  · next h =>
    refine dl_trim ?_ ?_ (by omega) fun n h1 h2 ho => isOne_out ok fun q => ho ?_
    · unfold mxP; split <;> omega
    · unfold mnP; split <;> omega
    · unfold mxP mnP; split <;> split <;> omega
theorem cn_low {r : Rc} (ok : r.Ok) (a b : Int) : cn (Tm.isOne r.to) a b = if mnP b r.last < mxP a r.from_ then 0 else cn (Tm.isOne r.to) (mxP a r.from_) (mnP b r.last) := by
  rw [← dl_len, dl_low ok]
  split
  · rfl
  · rw [dl_len]
end Cc
set_option maxHeartbeats 4000000
set_option linter.unusedSimpArgs false
set_option linter.unusedVariables false
namespace Cc
/-! ## Whether numbers tell a recurrence, as the program asks -/
def risA (n : Nat) (lt : Nat → Bool) : Bool := (List.range (n - 1)).all lt
theorem risA_iff {n : Nat} {lt : Nat → Bool} : risA n lt = true ↔ ∀ i, i + 1 < n → lt i = true := by
  unfold risA
  rw [List.all_eq_true]
  constructor
  · intro h i hi
    exact h i (List.mem_range.mpr (by omega))
  · intro h i hi
    exact h i (by have := List.mem_range.mp hi; omega)
theorem ris_iff : ∀ (l : List Int), Tm.risingInts l = true ↔ ∀ i, i + 1 < l.length → l.getD i 0 < l.getD (i + 1) 0
  | [] => by simp [Tm.risingInts]
  | [a] => by simp [Tm.risingInts]
  | a :: b :: r => by
    have ih := ris_iff (b :: r)
    unfold Tm.risingInts
    rw [Bool.and_eq_true, decide_eq_true_iff, ih]
    constructor
    · rintro ⟨h1, h2⟩ i hi
      cases i with
      | zero => exact h1
      | succ i => exact h2 i (by simp at hi ⊢; omega)
    · intro h
      exact ⟨h 0 (by simp), fun i hi => h (i + 1) (by simp at hi ⊢; omega)⟩
theorem risA_ints (ns : List Int) : risA ns.length (fun i => decide (ns.getD i 0 < ns.getD (i + 1) 0)) = Tm.risingInts ns := by
  rw [Bool.eq_iff_iff, risA_iff, ris_iff]
  simp only [decide_eq_true_eq]
def plt (a b : Int × Int) : Bool := decide (a.1 < b.1 ∨ (a.1 = b.1 ∧ a.2 < b.2))
def risP (ps : List (Int × Int)) : Bool := risA ps.length fun i => plt (ps.getD i (0, 0)) (ps.getD (i + 1) (0, 0))
theorem risP_iff : ∀ (l : List (Int × Int)), (∀ x ∈ l, 0 ≤ x.2) → (Tm.risingPairs (l.map parTo) = true ↔ ∀ i, i + 1 < l.length → plt (l.getD i (0, 0)) (l.getD (i + 1) (0, 0)) = true)
  | [], _ => by simp [Tm.risingPairs]
  | [a], _ => by simp [Tm.risingPairs]
  | a :: b :: r, hp => by
    have ih := risP_iff (b :: r) fun x hx => hp x (List.mem_cons_of_mem _ hx)
    have ha := hp a (by simp)
    have hb := hp b (by simp)
    rw [List.map_cons, List.map_cons]
    unfold Tm.risingPairs
    rw [Bool.and_eq_true]
    rw [List.map_cons] at ih
    rw [ih]
    have e : (decide ((parTo a).1 < (parTo b).1) || ((parTo a).1 == (parTo b).1 && decide ((parTo a).2 < (parTo b).2))) = plt a b := by
      unfold plt parTo
      simp only
      rw [Bool.eq_iff_iff, Bool.or_eq_true, Bool.and_eq_true, beq_iff_eq, decide_eq_true_iff, decide_eq_true_iff, decide_eq_true_iff]
      omega
    rw [e]
    constructor
    · rintro ⟨h1, h2⟩ i hi
      cases i with
      | zero => exact h1
      | succ i => exact h2 i (by simp at hi ⊢; omega)
    · intro h
      exact ⟨h 0 (by simp), fun i hi => h (i + 1) (by simp at hi ⊢; omega)⟩
theorem risP_eq {ps : List (Int × Int)} (h : parOk ps = true) : risP ps = Tm.risingPairs (ps.map parTo) := by
  rw [Bool.eq_iff_iff, risP_iff ps fun x hx => (of_decide_eq_true (List.all_eq_true.mp h x hx)).1.1]
  unfold risP
  rw [risA_iff]
def risW (ns : List Int) (lo hi : Int) : Bool := Tm.risingInts ns && ns.all fun x => decide (lo ≤ x ∧ x ≤ hi)
theorem pw_last : ∀ (l : List Int) (a : Int), (a :: l).Pairwise (· < ·) → ∀ x ∈ a :: l, a ≤ x ∧ x ≤ (a :: l).getLast (by simp)
  | [], a, _, x, hx => by
    simp at hx
    subst hx
    exact ⟨Int.le_refl _, Int.le_refl _⟩
  | b :: l, a, h, x, hx => by
    have h' := List.pairwise_cons.mp h
    have ih := pw_last l b h'.2
    rw [List.getLast_cons (by simp)]
    rcases List.mem_cons.mp hx with rfl | hx
    · have a1 := h'.1 b (by simp)
      have a2 := ih b (by simp)
      exact ⟨Int.le_refl _, by omega⟩
    · have a1 := h'.1 x hx
      exact ⟨by omega, (ih x hx).2⟩
theorem risW_cons (a : Int) (l : List Int) (lo hi : Int) : risW (a :: l) lo hi = (decide (lo ≤ a) && (decide ((a :: l).getLast (by simp) ≤ hi) && Tm.risingInts (a :: l))) := by
  unfold risW
  cases e : Tm.risingInts (a :: l) with
  | false => simp
  | true =>
    have pw := pw_last l a (rising_pw _ e)
    rw [Bool.eq_iff_iff, Bool.true_and, Bool.and_true, List.all_eq_true, Bool.and_eq_true, decide_eq_true_iff, decide_eq_true_iff]
    constructor
    · intro h
      have h1 := of_decide_eq_true (h a (by simp))
      have h2 := of_decide_eq_true (h _ (List.getLast_mem (by simp : a :: l ≠ [])))
      exact ⟨h1.1, h2.2⟩
    · rintro ⟨h1, h2⟩ x hx
      have := pw x hx
      exact decide_eq_true (by omega)
def daysOkP (b : Int) (ds : List Int) : Bool := if b = 0 then ds.isEmpty else if b = 1 then !ds.isEmpty && risW ds 0 6 else !decide (0 ∈ ds) && risW ds (-31) 31
def absP (i : Int) : Int := if i < 0 then -i else i
def parB (x : Int × Int) : Bool := decide ((1 ≤ absP x.1 ∧ absP x.1 ≤ 5) ∧ 0 ≤ x.2 ∧ x.2 ≤ 6)
def parsOkP (b : Int) (ps : List (Int × Int)) : Bool := if b < 2 then ps.isEmpty else ps.all parB && risP ps
def aheadOk (ns : List Int) : Bool := (decide ((0 ≤ ns.getD 0 0 ∧ ns.getD 0 0 ≤ 3) ∧ 1 ≤ ns.getD 1 0 ∧ ns.getD 1 0 ≤ 1000) && Tm.isDay (ns.getD 2 0)) && (if ns.getD 3 0 = 0 then decide (ns.getD 4 0 = 0) else decide (ns.getD 3 0 = 1) && Tm.isDay (ns.getD 4 0))
theorem parB_eq (ps : List (Int × Int)) : ps.all parB = parOk ps := by
  unfold parOk
  congr 1
  funext x
  unfold parB absP
  rw [decide_eq_decide]
  split <;> omega
theorem Shape.uniq {ns : List Int} {a b c a' b' c' : Nat} (h : Shape ns a b c) (h' : Shape ns a' b' c') : a = a' ∧ b = b' ∧ c = c' := by
  have e1 : a = a' := by have := h.d; have := h'.d; omega
  subst e1
  have e2 : b = b' := by have := h.m; have := h'.m; omega
  subst e2
  have e3 : c = c' := by have := h.q; have := h'.q; omega
  exact ⟨rfl, rfl, e3⟩
theorem ok_iff {ns : List Int} {nd nm nq : Nat} : (rcOf ns nd nm nq).Ok ↔ aheadOk ns = true ∧ daysOkP (rcOf ns nd nm nq).by_ (rcOf ns nd nm nq).days = true ∧ risW (rcOf ns nd nm nq).months 1 12 = true ∧ parsOkP (rcOf ns nd nm nq).by_ (rcOf ns nd nm nq).pairs = true ∧ ¬ (2 ≤ (rcOf ns nd nm nq).by_ ∧ (rcOf ns nd nm nq).days.length = 0 ∧ (rcOf ns nd nm nq).pairs.length = 0) := by
  have mo : ∀ l : List Int, (l.all fun m => decide (1 ≤ m ∧ m ≤ 12)) = monOk l := fun l => rfl
  constructor
  · intro ok
    have b1 := ok.by1; have b2 := ok.by2; have k := ok.kind; have u := ok.unt; have h1 := ok.has1
    refine ⟨?_, ?_, ?_, ?_, ?_⟩
    · unfold aheadOk
      rw [Bool.and_eq_true, Bool.and_eq_true]
      refine ⟨⟨decide_eq_true ⟨⟨b1, b2⟩, ok.ev1, ok.ev2⟩, ok.frm⟩, ?_⟩
      rcases h1 with z | z
      · rw [if_neg (by rw [z]; decide)] at u
        rw [if_pos (show ns.getD 3 0 = 0 from z)]
        exact decide_eq_true u
      · rw [if_pos z] at u
        rw [if_neg (show ¬ ns.getD 3 0 = 0 from fun q => by rw [show (rcOf ns nd nm nq).has = ns.getD 3 0 from rfl] at z; omega), Bool.and_eq_true]
        exact ⟨decide_eq_true z, u⟩
    · unfold daysOkP
      unfold Rc.kind at k
      by_cases z0 : (rcOf ns nd nm nq).by_ = 0
      · rw [if_pos z0] at k ⊢
        rw [Bool.and_eq_true] at k
        exact k.1
      · rw [if_neg z0] at k ⊢
        by_cases z1 : (rcOf ns nd nm nq).by_ = 1
        · rw [if_pos z1] at k ⊢
          rw [Bool.and_eq_true, Bool.and_eq_true] at k
          rw [Bool.and_eq_true]
          refine ⟨k.1, ?_⟩
          unfold risW
          rw [ok.rd, Bool.true_and, List.all_eq_true]
          intro x hx
          have := List.all_eq_true.mp k.2.1 x hx
          rw [Bool.and_eq_true, decide_eq_true_iff, decide_eq_true_iff] at this
          exact decide_eq_true this
        · rw [if_neg z1] at k ⊢
          rw [Bool.and_eq_true] at k
          have kk : ∀ x ∈ (rcOf ns nd nm nq).days, (1 ≤ x ∧ x ≤ 31) ∨ (-31 ≤ x ∧ x ≤ -1) := by
            intro x hx
            have := List.all_eq_true.mp k.2 x hx
            rw [Bool.or_eq_true, Bool.and_eq_true, Bool.and_eq_true, decide_eq_true_iff, decide_eq_true_iff, decide_eq_true_iff, decide_eq_true_iff] at this
            exact this
          rw [Bool.and_eq_true]
          refine ⟨?_, ?_⟩
          · rw [Bool.not_eq_true', decide_eq_false_iff_not]
            intro q
            have := kk 0 q
            omega
          · unfold risW
            rw [ok.rd, Bool.true_and, List.all_eq_true]
            intro x hx
            have := kk x hx
            exact decide_eq_true (by omega)
    · unfold risW
      rw [ok.rm, Bool.true_and, mo]
      exact ok.mon
    · unfold parsOkP
      unfold Rc.kind at k
      split
      · next z =>
        have : (rcOf ns nd nm nq).by_ = 0 ∨ (rcOf ns nd nm nq).by_ = 1 := by omega
        rcases this with z0 | z1
        · rw [if_pos z0, Bool.and_eq_true] at k
          exact k.2
        · rw [if_neg (by rw [z1]; decide), if_pos z1, Bool.and_eq_true, Bool.and_eq_true] at k
          exact k.2.2
      · rw [parB_eq, ok.par, Bool.true_and, risP_eq ok.par]
        exact ok.rp
    · rintro ⟨z, l1, l2⟩
      unfold Rc.kind at k
      rw [if_neg (by omega), if_neg (by omega), Bool.and_eq_true, Bool.not_eq_true', List.isEmpty_iff_length_eq_zero.mpr l1, List.isEmpty_iff_length_eq_zero.mpr l2] at k
      exact absurd k.1 (by decide)
  · rintro ⟨ha, hd, hm, hp, he⟩
    unfold aheadOk at ha
    rw [Bool.and_eq_true, Bool.and_eq_true, decide_eq_true_iff] at ha
    obtain ⟨⟨⟨⟨b1, b2⟩, v1, v2⟩, fr⟩, hu⟩ := ha
    have c1 : 0 ≤ (rcOf ns nd nm nq).by_ := b1
    have c2 : (rcOf ns nd nm nq).by_ ≤ 3 := b2
    unfold risW at hm
    rw [Bool.and_eq_true, mo] at hm
    have rd : Tm.risingInts (rcOf ns nd nm nq).days = true := by
      unfold daysOkP at hd
      split at hd
      · rw [List.isEmpty_iff.mp hd]
        rfl
      · split at hd
        · rw [Bool.and_eq_true] at hd
          unfold risW at hd
          rw [Bool.and_eq_true] at hd
          exact hd.2.1
        · rw [Bool.and_eq_true] at hd
          unfold risW at hd
          rw [Bool.and_eq_true] at hd
          exact hd.2.1
    have pp : parOk (rcOf ns nd nm nq).pairs = true ∧ Tm.risingPairs ((rcOf ns nd nm nq).pairs.map parTo) = true := by
      unfold parsOkP at hp
      split at hp
      · rw [List.isEmpty_iff.mp hp]
        exact ⟨rfl, rfl⟩
      · rw [Bool.and_eq_true, parB_eq] at hp
        rw [risP_eq hp.1] at hp
        exact hp
    refine ⟨b1, b2, v1, v2, ?_, fr, ?_, rd, hm.1, pp.2, hm.2, pp.1, ?_⟩
    · show ns.getD 3 0 = 0 ∨ ns.getD 3 0 = 1
      split at hu
      · next z => exact .inl z
      · rw [Bool.and_eq_true, decide_eq_true_iff] at hu
        exact .inr hu.1
    · show if ns.getD 3 0 = 1 then Tm.isDay (ns.getD 4 0) = true else ns.getD 4 0 = 0
      split at hu
      · next z =>
        rw [if_neg (by omega)]
        exact of_decide_eq_true hu
      · rw [Bool.and_eq_true, decide_eq_true_iff] at hu
        rw [if_pos hu.1]
        exact hu.2
    · unfold Rc.kind
      unfold daysOkP at hd
      unfold parsOkP at hp
      by_cases z0 : (rcOf ns nd nm nq).by_ = 0
      · rw [if_pos z0] at hd ⊢
        rw [if_pos (by omega)] at hp
        rw [hd, hp]
        rfl
      · rw [if_neg z0] at hd ⊢
        by_cases z1 : (rcOf ns nd nm nq).by_ = 1
        · rw [if_pos z1] at hd ⊢
          rw [if_pos (by omega)] at hp
          rw [Bool.and_eq_true] at hd
          unfold risW at hd
          rw [Bool.and_eq_true] at hd
          rw [hd.1, hp, Bool.true_and, Bool.and_true, List.all_eq_true]
          intro x hx
          have := of_decide_eq_true (List.all_eq_true.mp hd.2.2 x hx)
          rw [Bool.and_eq_true, decide_eq_true_iff, decide_eq_true_iff]
          exact this
        · rw [if_neg z1] at hd ⊢
          rw [Bool.and_eq_true, Bool.not_eq_true', decide_eq_false_iff_not] at hd
          have hd2 := hd.2
          unfold risW at hd2
          rw [Bool.and_eq_true] at hd2
          rw [Bool.and_eq_true]
          refine ⟨?_, ?_⟩
          · rw [Bool.not_eq_true', Bool.and_eq_false_iff]
            by_cases q : (rcOf ns nd nm nq).days.length = 0
            · right
              cases e : (rcOf ns nd nm nq).pairs.isEmpty with
              | false => rfl
              | true => exact absurd ⟨by omega, q, List.isEmpty_iff_length_eq_zero.mp e⟩ he
            · left
              cases e : (rcOf ns nd nm nq).days.isEmpty with
              | false => rfl
              | true => exact absurd (List.isEmpty_iff_length_eq_zero.mp e) q
          · rw [List.all_eq_true]
            intro x hx
            have := of_decide_eq_true (List.all_eq_true.mp hd2.2 x hx)
            have nz : x ≠ 0 := fun z => hd.1 (z ▸ hx)
            rw [Bool.or_eq_true, Bool.and_eq_true, Bool.and_eq_true, decide_eq_true_iff, decide_eq_true_iff, decide_eq_true_iff, decide_eq_true_iff]
            omega
theorem recur_none_shape {ns : List Int} (h : ∀ nd nm nq, ¬ Shape ns nd nm nq) : Tm.recurOf ns = none := by
  cases e : Tm.recurOf ns with
  | none => rfl
  | some r =>
    obtain ⟨nd, nm, nq, S, _⟩ := recurOf_inv e
    exact absurd S (h nd nm nq)
theorem recur_none_ok {ns : List Int} {nd nm nq : Nat} (S : Shape ns nd nm nq) (h : ¬ (rcOf ns nd nm nq).Ok) : Tm.recurOf ns = none := by
  cases e : Tm.recurOf ns with
  | none => rfl
  | some r =>
    obtain ⟨nd', nm', nq', S', ok, _⟩ := recurOf_inv e
    obtain ⟨rfl, rfl, rfl⟩ := S.uniq S'
    exact absurd ok h
/-! ## The shape, list by list -/
def Bs : Nat → Int
  | 0 => 62
  | 1 => 12
  | _ => 70
def Ms : Nat → Nat
  | 0 => 1
  | 1 => 1
  | _ => 2
def posn (cs : Nat → Nat) : Nat → Nat
  | 0 => 5
  | i + 1 => posn cs i + 1 + Ms i * cs i
def Wk (ns : List Int) (i : Nat) (cs : Nat → Nat) : Prop := ∀ j, j < i → posn cs j < ns.length ∧ ns.getD (posn cs j) 0 = cs j ∧ (cs j : Int) ≤ Bs j
theorem posn_congr {a b : Nat → Nat} : ∀ (i : Nat), (∀ j, j < i → a j = b j) → posn a i = posn b i
  | 0, _ => rfl
  | i + 1, h => by
    unfold posn
    rw [posn_congr i fun j hj => h j (by omega), h i (by omega)]
theorem Wk.agree {ns : List Int} {a b : Nat → Nat} : ∀ {i : Nat}, Wk ns i a → Wk ns i b → ∀ j, j < i → a j = b j
  | 0, _, _, j, h => by omega
  | i + 1, ha, hb, j, h => by
    have ih := Wk.agree (i := i) (fun j hj => ha j (by omega)) (fun j hj => hb j (by omega))
    by_cases e : j = i
    · subst e
      have p := posn_congr (a := a) (b := b) j ih
      have h1 := (ha j (by omega)).2.1
      have h2 := (hb j (by omega)).2.1
      rw [p] at h1
      omega
    · exact ih j (by omega)
def c3 (a b c : Nat) : Nat → Nat
  | 0 => a
  | 1 => b
  | _ => c
theorem Shape.wk {ns : List Int} {a b c : Nat} (h : Shape ns a b c) : Wk ns 3 (c3 a b c) ∧ ns.length = posn (c3 a b c) 3 := by
  have l := h.len; have d := h.d; have m := h.m; have q := h.q; have := h.d62; have := h.m12; have := h.q70
  have p0 : posn (c3 a b c) 0 = 5 := rfl
  have p1 : posn (c3 a b c) 1 = 6 + a := by show 5 + 1 + 1 * a = _; omega
  have p2 : posn (c3 a b c) 2 = 7 + a + b := by show 5 + 1 + 1 * a + 1 + 1 * b = _; omega
  have p3 : posn (c3 a b c) 3 = 8 + a + b + 2 * c := by show 5 + 1 + 1 * a + 1 + 1 * b + 1 + 2 * c = _; omega
  refine ⟨fun j hj => ?_, by omega⟩
  have : j = 0 ∨ j = 1 ∨ j = 2 := by omega
  rcases this with rfl | rfl | rfl
  · rw [p0]
    exact ⟨by omega, d, by show (a : Int) ≤ 62; omega⟩
  · rw [p1]
    exact ⟨by omega, m, by show (b : Int) ≤ 12; omega⟩
  · rw [p2]
    exact ⟨by omega, q, by show (c : Int) ≤ 70; omega⟩
theorem Wk.shape {ns : List Int} {cs : Nat → Nat} (h : Wk ns 3 cs) (l : ns.length = posn cs 3) : Shape ns (cs 0) (cs 1) (cs 2) := by
  have p0 : posn cs 0 = 5 := rfl
  have p1 : posn cs 1 = 6 + cs 0 := by show 5 + 1 + 1 * cs 0 = _; omega
  have p2 : posn cs 2 = 7 + cs 0 + cs 1 := by show 5 + 1 + 1 * cs 0 + 1 + 1 * cs 1 = _; omega
  have p3 : posn cs 3 = 8 + cs 0 + cs 1 + 2 * cs 2 := by show 5 + 1 + 1 * cs 0 + 1 + 1 * cs 1 + 1 + 2 * cs 2 = _; omega
  have h0 := h 0 (by omega)
  have h1 := h 1 (by omega)
  have h2 := h 2 (by omega)
  rw [p0] at h0
  rw [p1] at h1
  rw [p2] at h2
  have b0 : (cs 0 : Int) ≤ 62 := h0.2.2
  have b1 : (cs 1 : Int) ≤ 12 := h1.2.2
  have b2 : (cs 2 : Int) ≤ 70 := h2.2.2
  exact ⟨by omega, h0.2.1, h1.2.1, h2.2.1, by omega, by omega, by omega⟩
/-- a walk that can't go on: no shape -/
theorem Wk.stop {ns : List Int} {cs : Nat → Nat} {i : Nat} (hi : i < 3) (h : Wk ns i cs) (bad : ¬ (posn cs i < ns.length ∧ 0 ≤ ns.getD (posn cs i) 0 ∧ ns.getD (posn cs i) 0 ≤ Bs i)) (a b c : Nat) : ¬ Shape ns a b c := by
  intro S
  have w := S.wk.1
  have ag := Wk.agree h fun j hj => w j (by omega)
  have p := posn_congr i ag
  have := w i hi
  rw [← p] at this
  exact bad ⟨this.1, by omega, by omega⟩
theorem Wk.stop3 {ns : List Int} {cs : Nat → Nat} (h : Wk ns 3 cs) (bad : ¬ posn cs 3 = ns.length) (a b c : Nat) : ¬ Shape ns a b c := by
  intro S
  have w := S.wk
  have ag := Wk.agree h w.1
  have p := posn_congr 3 ag
  exact bad (by omega)
theorem chgs_two : ∀ (k : Nat) (l : List Int), 2 * k ≤ l.length → chgs k l = chgs k (l.take (2 * k))
  | 0, l, h => by simp [chgs]
  | k + 1, a :: b :: l, h => by
    have ih := chgs_two k l (by simp at h; omega)
    rw [show 2 * (k + 1) = 2 * k + 1 + 1 by omega, List.take_succ_cons, List.take_succ_cons]
    unfold chgs
    rw [ih]
  | k + 1, [a], h => by simp at h; omega
  | k + 1, [], h => by simp at h
end Cc
set_option maxHeartbeats 2000000
namespace Cc
/-! ## A list of calls, call by call -/
/-- what the object holds behind some calls -/
def runS : Tm.State → List (List (List Int)) → Tm.State
  | s, [] => s
  | s, c :: r => runS (TmNeutral.step s c).1 r
theorem runS_more : ∀ (s : Tm.State) (l : List (List (List Int))) (c : List (List Int)), runS s (l ++ [c]) = (TmNeutral.step (runS s l) c).1
  | _, [], _ => rfl
  | s, d :: l, c => runS_more (TmNeutral.step s d).1 l c
theorem played_more : ∀ (s : Tm.State) (l : List (List (List Int))) (c : List (List Int)), PyFlat.played TmNeutral.step s (l ++ [c]) = PyFlat.played TmNeutral.step s l ++ [(TmNeutral.step (runS s l) c).2]
  | _, [], _ => rfl
  | s, d :: l, c => by
    show (TmNeutral.step s d).2 :: PyFlat.played TmNeutral.step (TmNeutral.step s d).1 (l ++ [c]) = _
    rw [played_more]
    rfl
theorem told_more (l : List (List Int)) (a : List Int) : PyFlat.told (l ++ [a]) = PyFlat.told l ++ ((a.length : Int) :: a) := by
  unfold PyFlat.told
  rw [List.flatMap_append]
  simp
/-- the answers so far -/
def toldS (l : List (List (List Int))) : List Int := PyFlat.told (PyFlat.played TmNeutral.step TmNeutral.start l)
theorem toldS_more (l : List (List (List Int))) (c : List (List Int)) : toldS (l ++ [c]) = toldS l ++ (((TmNeutral.step (runS TmNeutral.start l) c).2.length : Int) :: (TmNeutral.step (runS TmNeutral.start l) c).2) := by
  unfold toldS
  rw [played_more, told_more]
/-- each call is a row alone: its place and its numbers -/
structure Asked (ns : List Int) (cs : List (List (List Int))) : Prop where
  put : ns = PyWide.put cs
  row : ∀ c ∈ cs, ∃ p xs, c = [p :: xs] ∧ xs.length ≤ 600 ∧ TmNeutral.asked1 c = true
  len : cs.length ≤ 400
  ans : PyWrtime.answers ns = toldS cs
theorem asked_of {ns : List Int} (h : PyWrtime.answers_asked ns = true) : ∃ cs, Asked ns cs := by
  unfold PyWrtime.answers_asked at h
  cases e : PyWrtime.calls ns with
  | none => rw [e] at h; cases h
  | some cs =>
    rw [e] at h
    simp only [Bool.and_eq_true] at h
    obtain ⟨⟨⟨_, hf⟩, hm⟩, ha⟩ := h
    have hp := PyWide.put_calls _ _ _ e
    unfold TmNeutral.asked at ha
    rw [Bool.and_eq_true, List.all_eq_true] at ha
    rw [List.all_eq_true] at hf
    refine ⟨cs, hp.1, fun c hc => ?_, of_decide_eq_true hm, ?_⟩
    · obtain ⟨p, xs, rows, rfl⟩ := hp.2 c hc
      have h1 := hf _ hc
      have h2 := ha.1 _ hc
      suffices q : rows = [] ∧ xs.length ≤ 600 by
        obtain ⟨rfl, l⟩ := q
        exact ⟨p, xs, rfl, l, h2⟩
      unfold PyWrtime.fits at h1
      simp only at h1
      have key : ∀ (a : List (Int × Int)) (m1 m2 : Nat) (lo hi : Int), (decide (a.length ≤ xs.length) && PyInside.each a xs && decide (m1 ≤ (xs.drop a.length).length) && decide ((xs.drop a.length).length ≤ m2) && (xs.drop a.length).all (PyInside.within lo hi) && decide (([] : List (Int × Int × Nat × Nat)).length ≤ rows.length) && decide (0 ≤ ((rows.drop 0).take (rows.length - ([] : List (Int × Int × Nat × Nat)).length)).length) && decide (((rows.drop 0).take (rows.length - ([] : List (Int × Int × Nat × Nat)).length)).length ≤ 0) && ((rows.drop 0).take (rows.length - ([] : List (Int × Int × Nat × Nat)).length)).all (fun l => decide (0 ≤ l.length) && decide (l.length ≤ 0) && l.all (PyInside.within 0 0)) && PyInside.lists [] (rows.take 0 ++ rows.drop (0 + (rows.length - ([] : List (Int × Int × Nat × Nat)).length)))) = true → a.length + m2 ≤ 600 → rows = [] ∧ xs.length ≤ 600 := by
        intro a m1 m2 lo hi q hl
        simp only [Bool.and_eq_true, decide_eq_true_eq, List.length_nil, Nat.sub_zero, List.drop_zero, List.take_length] at q
        obtain ⟨⟨⟨⟨⟨⟨⟨⟨⟨_, _⟩, _⟩, q4⟩, _⟩, _⟩, _⟩, q8⟩, _⟩, _⟩ := q
        refine ⟨List.eq_nil_of_length_eq_zero (by omega), ?_⟩
        rw [List.length_drop] at q4
        omega
      split at h1
      · exact absurd h1 (by decide)
      · next a m1 m2 lo hi r k n1 n2 llo lhi l1 l2 heq =>
        unfold PyWrtime.form at heq
        by_cases e1 : p = 1
        · rw [if_pos e1] at heq
          simp only [Option.some.injEq, Prod.mk.injEq] at heq
          obtain ⟨rfl, ⟨rfl, rfl, rfl, rfl⟩, rfl, rfl, rfl, rfl, rfl, rfl, rfl, rfl⟩ := heq
          exact key _ _ _ _ _ h1 (by decide)
        rw [if_neg e1] at heq
        by_cases e2 : p = 2
        · rw [if_pos e2] at heq
          simp only [Option.some.injEq, Prod.mk.injEq] at heq
          obtain ⟨rfl, ⟨rfl, rfl, rfl, rfl⟩, rfl, rfl, rfl, rfl, rfl, rfl, rfl, rfl⟩ := heq
          exact key _ _ _ _ _ h1 (by decide)
        rw [if_neg e2] at heq
        by_cases e3 : p = 3
        · rw [if_pos e3] at heq
          simp only [Option.some.injEq, Prod.mk.injEq] at heq
          obtain ⟨rfl, ⟨rfl, rfl, rfl, rfl⟩, rfl, rfl, rfl, rfl, rfl, rfl, rfl, rfl⟩ := heq
          exact key _ _ _ _ _ h1 (by decide)
        rw [if_neg e3] at heq
        by_cases e4 : p = 4
        · rw [if_pos e4] at heq
          simp only [Option.some.injEq, Prod.mk.injEq] at heq
          obtain ⟨rfl, ⟨rfl, rfl, rfl, rfl⟩, rfl, rfl, rfl, rfl, rfl, rfl, rfl, rfl⟩ := heq
          exact key _ _ _ _ _ h1 (by decide)
        rw [if_neg e4] at heq
        by_cases e5 : p = 5
        · rw [if_pos e5] at heq
          simp only [Option.some.injEq, Prod.mk.injEq] at heq
          obtain ⟨rfl, ⟨rfl, rfl, rfl, rfl⟩, rfl, rfl, rfl, rfl, rfl, rfl, rfl, rfl⟩ := heq
          exact key _ _ _ _ _ h1 (by decide)
        rw [if_neg e5] at heq
        by_cases e6 : p = 6
        · rw [if_pos e6] at heq
          simp only [Option.some.injEq, Prod.mk.injEq] at heq
          obtain ⟨rfl, ⟨rfl, rfl, rfl, rfl⟩, rfl, rfl, rfl, rfl, rfl, rfl, rfl, rfl⟩ := heq
          exact key _ _ _ _ _ h1 (by decide)
        rw [if_neg e6] at heq
        by_cases e7 : p = 7
        · rw [if_pos e7] at heq
          simp only [Option.some.injEq, Prod.mk.injEq] at heq
          obtain ⟨rfl, ⟨rfl, rfl, rfl, rfl⟩, rfl, rfl, rfl, rfl, rfl, rfl, rfl, rfl⟩ := heq
          exact key _ _ _ _ _ h1 (by decide)
        rw [if_neg e7] at heq
        by_cases e8 : p = 8
        · rw [if_pos e8] at heq
          simp only [Option.some.injEq, Prod.mk.injEq] at heq
          obtain ⟨rfl, ⟨rfl, rfl, rfl, rfl⟩, rfl, rfl, rfl, rfl, rfl, rfl, rfl, rfl⟩ := heq
          exact key _ _ _ _ _ h1 (by decide)
        rw [if_neg e8] at heq
        by_cases e9 : p = 9
        · rw [if_pos e9] at heq
          simp only [Option.some.injEq, Prod.mk.injEq] at heq
          obtain ⟨rfl, ⟨rfl, rfl, rfl, rfl⟩, rfl, rfl, rfl, rfl, rfl, rfl, rfl, rfl⟩ := heq
          exact key _ _ _ _ _ h1 (by decide)
        rw [if_neg e9] at heq
        by_cases e10 : p = 10
        · rw [if_pos e10] at heq
          simp only [Option.some.injEq, Prod.mk.injEq] at heq
          obtain ⟨rfl, ⟨rfl, rfl, rfl, rfl⟩, rfl, rfl, rfl, rfl, rfl, rfl, rfl, rfl⟩ := heq
          exact key _ _ _ _ _ h1 (by decide)
        rw [if_neg e10] at heq
        by_cases e11 : p = 11
        · rw [if_pos e11] at heq
          simp only [Option.some.injEq, Prod.mk.injEq] at heq
          obtain ⟨rfl, ⟨rfl, rfl, rfl, rfl⟩, rfl, rfl, rfl, rfl, rfl, rfl, rfl, rfl⟩ := heq
          exact key _ _ _ _ _ h1 (by decide)
        rw [if_neg e11] at heq
        by_cases e12 : p = 12
        · rw [if_pos e12] at heq
          simp only [Option.some.injEq, Prod.mk.injEq] at heq
          obtain ⟨rfl, ⟨rfl, rfl, rfl, rfl⟩, rfl, rfl, rfl, rfl, rfl, rfl, rfl, rfl⟩ := heq
          exact key _ _ _ _ _ h1 (by decide)
        rw [if_neg e12] at heq
        cases heq
    · unfold PyWrtime.answers
      rw [e]
      rfl
end Cc
set_option maxHeartbeats 2000000
namespace Cc
/-! ## Which call it is -/
/-- a call that may be asked, by its place -/
inductive Which : Int → List Int → Tm.Call → Prop
  | day (y m d : Int) : Which 1 [y, m, d] (.day y m d)
  | date (n : Int) : Which 2 [n] (.date n)
  | setclock (l : List Int) : Which 3 l (.setclock l)
  | offset (t : Int) : Which 4 [t] (.offset t)
  | read (t : Int) : Which 5 [t] (.read t)
  | when_ (y m d h mi s : Int) : Which 6 [y, m, d, h, mi, s] (.when_ y m d h mi s)
  | add (n m d h : Int) : Which 7 [n, m, d, h] (.add n m d h)
  | far (a b : Int) : Which 8 [a, b] (.far a b)
  | setrecur (l : List Int) : Which 9 l (.setrecur l)
  | isone (n : Int) : Which 10 [n] (.isone n)
  | count (a b : Int) : Which 11 [a, b] (.count a b)
  | nth (a k : Int) : Which 12 [a, k] (.nth a k)
theorem which_of {pl : Int} {ns : List Int} (h : TmNeutral.asked1 [pl :: ns] = true) : ∃ x, Which pl ns x ∧ TmNeutral.callOf [pl :: ns] = some x := by
  generalize e : [pl :: ns] = c at h
  unfold TmNeutral.asked1 at h
  split at h <;> first
    | (cases e; exact ⟨_, .day _ _ _, rfl⟩)
    | (cases e; exact ⟨_, .date _, rfl⟩)
    | (cases e; exact ⟨_, .setclock _, by unfold TmNeutral.callOf; rfl⟩)
    | (cases e; exact ⟨_, .offset _, rfl⟩)
    | (cases e; exact ⟨_, .read _, rfl⟩)
    | (cases e; exact ⟨_, .when_ _ _ _ _ _ _, rfl⟩)
    | (cases e; exact ⟨_, .add _ _ _ _, rfl⟩)
    | (cases e; exact ⟨_, .far _ _, rfl⟩)
    | (cases e; exact ⟨_, .setrecur _, by unfold TmNeutral.callOf; rfl⟩)
    | (cases e; exact ⟨_, .isone _, rfl⟩)
    | (cases e; exact ⟨_, .count _ _, rfl⟩)
    | (cases e; exact ⟨_, .nth _ _, rfl⟩)
    | cases h
theorem step_which {s : Tm.State} {pl : Int} {ns : List Int} {x : Tm.Call} (e : TmNeutral.callOf [pl :: ns] = some x) : TmNeutral.step s [pl :: ns] = ((Tm.step s x).1, TmNeutral.told (Tm.step s x).2) := by
  unfold TmNeutral.step
  rw [e]
end Cc
set_option Elab.async false
set_option maxRecDepth 100000
set_option maxHeartbeats 2000000
set_option linter.unusedSimpArgs false
set_option linter.unusedVariables false
namespace Cc
open PySem PySem.Spec PyProof.Rows L2
/-! ## Words of the layer that every def uses -/
/-- the i-th statement of the program's top -/
def topS (i : Nat) : Stmt := PySem.Challenge.pw_calendarclocks_s01_answers.main.body.getD i (.Pass ⟨0, 0, 0, 0⟩)
/-- a def of the text, at the module's name -/
structure Txd (K : PySem.W.Frag) (mg : Str → Option Value) (x : Str) (st : Stmt) : Prop where
  ex : ∃ (f : Addr) (fd : FuncData), Fun K x x st f fd ∧ mg x = some (.ref f)
/-- a def that keeps a promise -/
structure Df (P : Program) (w : World) (K : PySem.W.Frag) (mg : Str → Option Value) (base : Heap) (x : Str) (ps : List Str) (k : Nat) (sp : Sp) : Prop where
  ex : ∃ (f : Addr) (fd : FuncData), FnOk P w K mg base CX0 k f fd ps sp ∧ mg x = some (.ref f) ∧ PySem.W.keepIn K (.ref f) = true ∧ Binds K fd ps []
/-- a class that is made by a promise of its __init__ -/
structure Dc (P : Program) (w : World) (K : PySem.W.Frag) (mg : Str → Option Value) (base : Heap) (x : Str) (C : Addr) (ps : List Str) (k : Nat) (sp : Sp) : Prop where
  ex : ∃ (f : Addr) (fd : FuncData), FnOk P w K mg base CX0 k f fd ps sp ∧ Mk K C f ∧ mg x = some (.ref C) ∧ Binds K fd ps []
/-- a class of the text and its __init__ -/
structure Txc (K : PySem.W.Frag) (mg : Str → Option Value) (x : Str) (C : Addr) (q : Str) (st : Stmt) : Prop where
  ex : ∃ (f : Addr) (fd : FuncData), Fun K "__init__" q st f fd ∧ Mk K C f ∧ mg x = some (.ref C)
/-- a constant of the module -/
def Cst (mg : Str → Option Value) (x : Str) (v : V) : Prop := ∃ u, mg x = some u ∧ RelV v u
section
variable {X : Cx} {x : Str} {p pos : Pos} {e : Expr} {es : List Expr} {t : TA} {ps : List Str} {sp : Sp} {j k : Nat} {C : Addr}
theorem pe_gc {v : V} (hg : Gl X x) (c : Cst X.mg x v) (hd : (x == ("__debug__" : Str)) = false := by decide) : PE X (.Name x pos) (tC v) := by
  obtain ⟨u, hm, r⟩ := c
  exact pe_glob hg hm r hd
theorem pe_callD (D : Df X.prog X.w X.K X.mg X.base x ps j sp) (hr : Room k X.A) (hk : j ≤ k) (hg : Gl X x) (ha : PA X (e :: es) t) (hdb : (x == ("__debug__" : Str)) = false := by decide)
    (he : starEach (e :: es) X.env = (false, eval e X.env) :: starEach es X.env := by rfl) (hpl : (backTo pos (starEach es X.env)).any (·.1) = false := by rfl) : PE X (.Call (.Name x p) (e :: es) [] pos) (tCall sp [] E0 t) := by
  obtain ⟨f, fd, F, hm, kp, b⟩ := D.ex
  exact pe_call F (hr.mono hk) hg hm kp b .nil pass0 ha hdb he hpl
theorem pe_makeD (D : Dc X.prog X.w X.K X.mg X.base x C ps j sp) (hr : Room k X.A) (hk : j + 1 ≤ k) (hg : Gl X x) (ha : PA X (e :: es) t) (hdb : (x == ("__debug__" : Str)) = false := by decide)
    (he : starEach (e :: es) X.env = (false, eval e X.env) :: starEach es X.env := by rfl) (hpl : (backTo pos (starEach es X.env)).any (·.1) = false := by rfl) : PE X (.Call (.Name x p) (e :: es) [] pos) (tMake C sp [] E0 t) := by
  obtain ⟨f, fd, F, M, hm, b⟩ := D.ex
  exact pe_make M F (hr.mono hk) hg hm b .nil pass0 ha hdb he hpl
theorem pe_make0D (D : Dc X.prog X.w X.K X.mg X.base x C ps j sp) (hr : Room k X.A) (hk : j + 1 ≤ k) (hg : Gl X x) (hdb : (x == ("__debug__" : Str)) = false := by decide) : PE X (.Call (.Name x p) [] [] pos) (tMake C sp [] E0 tNil) := by
  obtain ⟨f, fd, F, M, hm, b⟩ := D.ex
  exact pe_make0 M F (hr.mono hk) hg hm b .nil pass0 hdb
end
/-- the names that the program leaves as they are -/
structure Blt (K : PySem.W.Frag) (mg : Str → Option Value) (tbl : Addr) : Prop where
  DAYS_BEFORE_MONTH : Cst mg "DAYS_BEFORE_MONTH" (.ref tbl)
  tb : ∀ H, SqT K H tbl (TBL.map V.int)
  b_min : mg "min" = none
  b_len : mg "len" = none
  b_range : mg "range" = none
  b_sorted : mg "sorted" = none
  b_max : mg "max" = none
  b_abs : mg "abs" = none
  b_list : mg "list" = none
  LAST_YEAR : Cst mg "LAST_YEAR" (.int 9999)
  DAYS_BEFORE_1970 : Cst mg "DAYS_BEFORE_1970" (.int 719162)
  LAST_DAY : Cst mg "LAST_DAY" (.int 2932896)
  DAY_SECONDS : Cst mg "DAY_SECONDS" (.int 86400)
  DAYS_IN_400_YEARS : Cst mg "DAYS_IN_400_YEARS" (.int 146097)
  DAYS_IN_100_YEARS : Cst mg "DAYS_IN_100_YEARS" (.int 36524)
  DAYS_IN_4_YEARS : Cst mg "DAYS_IN_4_YEARS" (.int 1461)
  DAYS_IN_YEAR : Cst mg "DAYS_IN_YEAR" (.int 365)
  MOST_CHANGES : Cst mg "MOST_CHANGES" (.int 64)
  BY_DAY : Cst mg "BY_DAY" (.int 0)
  BY_WEEK : Cst mg "BY_WEEK" (.int 1)
  BY_MONTH : Cst mg "BY_MONTH" (.int 2)
  BY_YEAR : Cst mg "BY_YEAR" (.int 3)
  MOST_EVERY : Cst mg "MOST_EVERY" (.int 1000)
  MOST_DAYS_recurrences : Cst mg "MOST_DAYS_recurrences" (.int 62)
  MOST_MONTHS_recurrences : Cst mg "MOST_MONTHS_recurrences" (.int 12)
  MOST_PAIRS : Cst mg "MOST_PAIRS" (.int 70)
  NUMBERS_AHEAD : Cst mg "NUMBERS_AHEAD" (.int 5)
  MOST_MONTHS_spans : Cst mg "MOST_MONTHS_spans" (.int 120000)
  MOST_DAYS_spans : Cst mg "MOST_DAYS_spans" (.int 4000000)
  ELSE_LAST : Cst mg "ELSE_LAST" (.int 0)
  ELSE_NEXT : Cst mg "ELSE_NEXT" (.int 1)
  ELSE_NONE : Cst mg "ELSE_NONE" (.int 2)
  MOST_LOOKED_AT : Cst mg "MOST_LOOKED_AT" (.int 100000)
/-- a promise that asks whole numbers and hands back a value, the heap as it was -/
def sp1 (A : Int → Prop) (f : Int → V) : Sp := fun vs H Q _ => ∃ a : Int, vs = [.int a] ∧ A a ∧ Q (f a) H
def sp2 (A : Int → Int → Prop) (f : Int → Int → V) : Sp := fun vs H Q _ => ∃ a b : Int, vs = [.int a, .int b] ∧ A a b ∧ Q (f a b) H
def sp3 (A : Int → Int → Int → Prop) (f : Int → Int → Int → V) : Sp := fun vs H Q _ => ∃ a b c : Int, vs = [.int a, .int b, .int c] ∧ A a b c ∧ Q (f a b c) H
def sp4 (A : Int → Int → Int → Int → Prop) (f : Int → Int → Int → Int → V) : Sp := fun vs H Q _ => ∃ a b c d : Int, vs = [.int a, .int b, .int c, .int d] ∧ A a b c d ∧ Q (f a b c d) H
end Cc
set_option Elab.async false
set_option maxRecDepth 100000
set_option maxHeartbeats 2000000
set_option linter.unusedSimpArgs false
set_option linter.unusedVariables false
namespace Cc
open PySem PySem.Spec PyProof.Rows L2
section
variable {P : Program} {w : World} {K : PySem.W.Frag} {mg : Str → Option Value} {base : Heap} {tbl : Addr}
/-! ## The defs of the calendar -/
abbrev s_is_leap : Stmt := topS 10
theorem sc_is_leap : FnScope ["y"] ["y"] (defScope s_is_leap) := ⟨rfl, rfl, rfl, by decide +kernel, rfl, by decide +kernel, by decide +kernel⟩
def sp_is_leap : Sp := sp1 (fun _ => True) fun y => .bl (Tm.isLeap y)
theorem ok_is_leap (B : Blt K mg tbl) (T : Txd K mg "is_leap" s_is_leap)  : Df P w K mg base "is_leap" ["y"] 1 (sp_is_leap) := by
  obtain ⟨f, fd, F, hm⟩ := T.ex
  refine ⟨f, fd, F.ok sc_is_leap (fun vs H Q E h => ?_) (fun cdv A outer s H vs Q E hr h => ⟨_, (pss_one (ps_ret (pe_and (pe_cmpR op_eq (pe_op op_mod (pv 0) pe_int) pe_int (nomark _)) (pe_one (pe_or (pe_cmpR op_ne (pe_op op_mod (pv 0) pe_int) pe_int (nomark _)) (pe_one (pe_cmpR op_eq (pe_op op_mod (pv 0) pe_int) pe_int (nomark _)))))))), ?_⟩), hm, F.kp, F.binds fun _ _ _ _ _ _ us hl => match us, hl with | [_], _ => rfl⟩
  · obtain ⟨y, rfl, _⟩ := h
    rfl
  · obtain ⟨y, rfl, _, h⟩ := h
    simp only [cxOf, tFld, HO.ins.injEq, tSeq, tLst, tTup, tNext, tBreak, tCont, tRet, tRetN, tDrop, tAsg, gName, tAug, ipI, tIfS, tIf, tTest, tChain, tB, tAnd, tOr, tNot, tAndV, tOrV, tNotV, tOp, tUn, rU, tVar, tC, rI, rI0, rEq, rNe, CDiv, CMul, tCall, tCB, tCons, tNil, sp1, sp2, sp3, sp4, L2.start, scal, List.map, List.length, List.replicate, List.append, List.cons_append, List.nil_append, List.append_nil, List.set_cons_zero, List.set_cons_succ, List.getElem?_cons_zero, List.getElem?_cons_succ, Option.some.injEq, V.int.injEq, V.bl.injEq, V.ref.injEq, List.cons.injEq, and_assoc, exists_and_left, exists_eq_left', exists_eq_left, and_true, true_and, decide_eq_true_eq, Bool.not_eq_true', decide_eq_false_iff_not, if_true, if_false, reduceCtorEq, decide_false, decide_true, Bool.false_eq_true, Bool.true_eq_false, Bool.not_true, Bool.not_false, ite_true, ite_false, Int.reduceLT, Int.reduceLE, Int.reduceNeg, Int.reducePow, or_true, true_or, not_true_eq_false, not_false_eq_true, exists_eq, exists_eq']
    replace h : Q (.bl (decide (y % 4 = 0) && (!decide (y % 100 = 0) || decide (y % 400 = 0)))) H := h
    by_cases c4 : y % 4 = 0 <;> by_cases c1 : y % 100 = 0 <;> by_cases c5 : y % 400 = 0 <;> simp only [c4, c1, c5, cxOf, tFld, HO.ins.injEq, tSeq, tLst, tTup, tNext, tBreak, tCont, tRet, tRetN, tDrop, tAsg, gName, tAug, ipI, tIfS, tIf, tTest, tChain, tB, tAnd, tOr, tNot, tAndV, tOrV, tNotV, tOp, tUn, rU, tVar, tC, rI, rI0, rEq, rNe, CDiv, CMul, tCall, tCB, tCons, tNil, sp1, sp2, sp3, sp4, L2.start, scal, List.map, List.length, List.replicate, List.append, List.cons_append, List.nil_append, List.append_nil, List.set_cons_zero, List.set_cons_succ, List.getElem?_cons_zero, List.getElem?_cons_succ, Option.some.injEq, V.int.injEq, V.bl.injEq, V.ref.injEq, List.cons.injEq, and_assoc, exists_and_left, exists_eq_left', exists_eq_left, and_true, true_and, decide_eq_true_eq, Bool.not_eq_true', decide_eq_false_iff_not, if_true, if_false, reduceCtorEq, decide_false, decide_true, Bool.false_eq_true, Bool.true_eq_false, Bool.not_true, Bool.not_false, ite_true, ite_false, Int.reduceLT, Int.reduceLE, Int.reduceNeg, Int.reducePow, or_true, true_or, not_true_eq_false, not_false_eq_true, exists_eq, exists_eq', Bool.and_true, Bool.true_and, Bool.and_false, Bool.false_and, Bool.or_true, Bool.true_or, Bool.or_false, Bool.false_or, not_true_eq_false, not_false_eq_true] at h ⊢ <;> exact h
abbrev s_days_before_month : Stmt := topS 11
theorem sc_days_before_month : FnScope ["y", "m", "days"] ["y", "m"] (defScope s_days_before_month) := ⟨rfl, rfl, rfl, by decide +kernel, rfl, by decide +kernel, by decide +kernel⟩
def sp_days_before_month : Sp := sp2 (fun _ m => 1 ≤ m ∧ m ≤ 13) fun y m => .int (dbm y m)
theorem at_tbl {m : Int} (h1 : 1 ≤ m) (h2 : m ≤ 13) : atI (TBL.map V.int) (m - 1) = some (V.int (TBL.getD (m - 1).toNat 0)) := by
  rcases m13 h1 h2 with rfl|rfl|rfl|rfl|rfl|rfl|rfl|rfl|rfl|rfl|rfl|rfl|rfl <;> rfl
theorem ok_days_before_month (B : Blt K mg tbl) (T : Txd K mg "days_before_month" s_days_before_month) (D_is_leap : Df P w K mg base "is_leap" ["y"] 1 (sp_is_leap)) : Df P w K mg base "days_before_month" ["y", "m"] 2 (sp_days_before_month) := by
  obtain ⟨f, fd, F, hm⟩ := T.ex
  refine ⟨f, fd, F.ok sc_days_before_month (fun vs H Q E h => ?_) (fun cdv A outer s H vs Q E hr h => ⟨_, (pss_cons (ps_set (i := 2) sc_days_before_month.nd rfl (Or.inl rfl) (pe_ix ix_tup (pe_gc (by rfl) B.DAYS_BEFORE_MONTH) (pe_op op_sub (pv 1) pe_int) (fun _ _ => rfl)))
    (pss_cons (ps_if (PW.pt (pw_and (pt_cmpR op_gt (pv 1) pe_int (nomark _)) (pw_and1 (pt_val (pe_callD D_is_leap hr (by decide) (by rfl) (pa_cons (pv 0) pa_nil))))))
     (pss_one (ps_ret (pe_op op_add (pv 2) pe_int)))
     pss_nil)
    (pss_one (ps_ret (pv 2))))), ?_⟩), hm, F.kp, F.binds fun _ _ _ _ _ _ us hl => match us, hl with | [_, _], _ => rfl⟩
  · obtain ⟨y, m, rfl, _⟩ := h
    rfl
  · obtain ⟨y, m, rfl, ⟨h1, h2⟩, h⟩ := h
    refine ⟨_, rfl, _, _, rfl, rfl, tbl, _, _, _, rfl, rfl, B.tb _, at_tbl h1 h2, ?_⟩
    simp only [sp_is_leap, cxOf, tFld, HO.ins.injEq, tSeq, tLst, tTup, tNext, tBreak, tCont, tRet, tRetN, tDrop, tAsg, gName, tAug, ipI, tIfS, tIf, tTest, tChain, tB, tAnd, tOr, tNot, tAndV, tOrV, tNotV, tOp, tUn, rU, tVar, tC, rI, rI0, rEq, rNe, CDiv, CMul, tCall, tCB, tCons, tNil, sp1, sp2, sp3, sp4, L2.start, scal, List.map, List.length, List.replicate, List.append, List.cons_append, List.nil_append, List.append_nil, List.set_cons_zero, List.set_cons_succ, List.getElem?_cons_zero, List.getElem?_cons_succ, Option.some.injEq, V.int.injEq, V.bl.injEq, V.ref.injEq, List.cons.injEq, and_assoc, exists_and_left, exists_eq_left', exists_eq_left, and_true, true_and, decide_eq_true_eq, Bool.not_eq_true', decide_eq_false_iff_not, if_true, if_false, reduceCtorEq, decide_false, decide_true, Bool.false_eq_true, Bool.true_eq_false, Bool.not_true, Bool.not_false, ite_true, ite_false, Int.reduceLT, Int.reduceLE, Int.reduceNeg, Int.reducePow, or_true, true_or, not_true_eq_false, not_false_eq_true, exists_eq, exists_eq']
    by_cases c1 : 2 < m
    · rw [if_pos c1]
      cases c2 : Tm.isLeap y
      · simp [dbm, c2] at h ⊢
        exact h
      · simp [dbm, c1, c2] at h ⊢
        exact h
    · rw [if_neg c1]
      simp [dbm, c1] at h ⊢
      exact h
abbrev s_month_length : Stmt := topS 12
theorem sc_month_length : FnScope ["y", "m"] ["y", "m"] (defScope s_month_length) := ⟨rfl, rfl, rfl, by decide +kernel, rfl, by decide +kernel, by decide +kernel⟩
def sp_month_length : Sp := sp2 (fun _ m => 1 ≤ m ∧ m ≤ 12) fun y m => .int (mlen y m)
theorem ok_month_length (B : Blt K mg tbl) (T : Txd K mg "month_length" s_month_length) (D_days_before_month : Df P w K mg base "days_before_month" ["y", "m"] 2 (sp_days_before_month)) : Df P w K mg base "month_length" ["y", "m"] 3 (sp_month_length) := by
  obtain ⟨f, fd, F, hm⟩ := T.ex
  refine ⟨f, fd, F.ok sc_month_length (fun vs H Q E h => ?_) (fun cdv A outer s H vs Q E hr h => ⟨_, (pss_one (ps_ret (pe_op op_sub (pe_callD D_days_before_month hr (by decide) (by rfl) (pa_cons (pv 0) (pa_cons (pe_op op_add (pv 1) pe_int) pa_nil))) (pe_callD D_days_before_month hr (by decide) (by rfl) (pa_cons (pv 0) (pa_cons (pv 1) pa_nil)))))), ?_⟩), hm, F.kp, F.binds fun _ _ _ _ _ _ us hl => match us, hl with | [_, _], _ => rfl⟩
  · obtain ⟨y, m, rfl, _⟩ := h
    rfl
  · obtain ⟨y, m, rfl, ⟨h1, h2⟩, h⟩ := h
    simp only [sp_days_before_month, cxOf, tFld, HO.ins.injEq, tSeq, tLst, tTup, tNext, tBreak, tCont, tRet, tRetN, tDrop, tAsg, gName, tAug, ipI, tIfS, tIf, tTest, tChain, tB, tAnd, tOr, tNot, tAndV, tOrV, tNotV, tOp, tUn, rU, tVar, tC, rI, rI0, rEq, rNe, CDiv, CMul, tCall, tCB, tCons, tNil, sp1, sp2, sp3, sp4, L2.start, scal, List.map, List.length, List.replicate, List.append, List.cons_append, List.nil_append, List.append_nil, List.set_cons_zero, List.set_cons_succ, List.getElem?_cons_zero, List.getElem?_cons_succ, Option.some.injEq, V.int.injEq, V.bl.injEq, V.ref.injEq, List.cons.injEq, and_assoc, exists_and_left, exists_eq_left', exists_eq_left, and_true, true_and, decide_eq_true_eq, Bool.not_eq_true', decide_eq_false_iff_not, if_true, if_false, reduceCtorEq, decide_false, decide_true, Bool.false_eq_true, Bool.true_eq_false, Bool.not_true, Bool.not_false, ite_true, ite_false, Int.reduceLT, Int.reduceLE, Int.reduceNeg, Int.reducePow, or_true, true_or, not_true_eq_false, not_false_eq_true, exists_eq, exists_eq']
    exact ⟨by omega, by omega, by omega, by omega, h⟩
abbrev s_is_date : Stmt := topS 13
theorem sc_is_date : FnScope ["y", "m", "d"] ["y", "m", "d"] (defScope s_is_date) := ⟨rfl, rfl, rfl, by decide +kernel, rfl, by decide +kernel, by decide +kernel⟩
def sp_is_date : Sp := sp3 (fun _ _ _ => True) fun y m d => .bl (isDateM y m d)
theorem ok_is_date (B : Blt K mg tbl) (T : Txd K mg "is_date" s_is_date) (D_month_length : Df P w K mg base "month_length" ["y", "m"] 3 (sp_month_length)) : Df P w K mg base "is_date" ["y", "m", "d"] 4 (sp_is_date) := by
  obtain ⟨f, fd, F, hm⟩ := T.ex
  refine ⟨f, fd, F.ok sc_is_date (fun vs H Q E h => ?_) (fun cdv A outer s H vs Q E hr h => ⟨_, (pss_cons (ps_if (pt_not (PW.pt (pw_and (pt_chain op_le op_le pe_int (pv 0) (pe_gc (by rfl) B.LAST_YEAR)) (pw_and1 (pt_chain op_le op_le pe_int (pv 1) pe_int)))))
     (pss_one (ps_ret pe_bl))
     pss_nil)
    (pss_one (ps_ret (pe_chain op_le op_le pe_int (pv 2) (pe_callD D_month_length hr (by decide) (by rfl) (pa_cons (pv 0) (pa_cons (pv 1) pa_nil))))))), ?_⟩), hm, F.kp, F.binds fun _ _ _ _ _ _ us hl => match us, hl with | [_, _, _], _ => rfl⟩
  · obtain ⟨y, m, d, rfl, _⟩ := h
    rfl
  · obtain ⟨y, m, d, rfl, _, h⟩ := h
    simp only [sp_month_length, cxOf, tFld, HO.ins.injEq, tSeq, tLst, tTup, tNext, tBreak, tCont, tRet, tRetN, tDrop, tAsg, gName, tAug, ipI, tIfS, tIf, tTest, tChain, tB, tAnd, tOr, tNot, tAndV, tOrV, tNotV, tOp, tUn, rU, tVar, tC, rI, rI0, rEq, rNe, CDiv, CMul, tCall, tCB, tCons, tNil, sp1, sp2, sp3, sp4, L2.start, scal, List.map, List.length, List.replicate, List.append, List.cons_append, List.nil_append, List.append_nil, List.set_cons_zero, List.set_cons_succ, List.getElem?_cons_zero, List.getElem?_cons_succ, Option.some.injEq, V.int.injEq, V.bl.injEq, V.ref.injEq, List.cons.injEq, and_assoc, exists_and_left, exists_eq_left', exists_eq_left, and_true, true_and, decide_eq_true_eq, Bool.not_eq_true', decide_eq_false_iff_not, if_true, if_false, reduceCtorEq, decide_false, decide_true, Bool.false_eq_true, Bool.true_eq_false, Bool.not_true, Bool.not_false, ite_true, ite_false, Int.reduceLT, Int.reduceLE, Int.reduceNeg, Int.reducePow, or_true, true_or, not_true_eq_false, not_false_eq_true, exists_eq, exists_eq']
    by_cases c1 : 1 ≤ y <;> by_cases c2 : y ≤ 9999 <;> by_cases c3 : 1 ≤ m <;> by_cases c4 : m ≤ 12 <;> by_cases c5 : 1 ≤ d <;>
      simp only [isDateM, c1, c2, c3, c4, c5, cxOf, tFld, HO.ins.injEq, tSeq, tLst, tTup, tNext, tBreak, tCont, tRet, tRetN, tDrop, tAsg, gName, tAug, ipI, tIfS, tIf, tTest, tChain, tB, tAnd, tOr, tNot, tAndV, tOrV, tNotV, tOp, tUn, rU, tVar, tC, rI, rI0, rEq, rNe, CDiv, CMul, tCall, tCB, tCons, tNil, sp1, sp2, sp3, sp4, L2.start, scal, List.map, List.length, List.replicate, List.append, List.cons_append, List.nil_append, List.append_nil, List.set_cons_zero, List.set_cons_succ, List.getElem?_cons_zero, List.getElem?_cons_succ, Option.some.injEq, V.int.injEq, V.bl.injEq, V.ref.injEq, List.cons.injEq, and_assoc, exists_and_left, exists_eq_left', exists_eq_left, and_true, true_and, decide_eq_true_eq, Bool.not_eq_true', decide_eq_false_iff_not, if_true, if_false, reduceCtorEq, decide_false, decide_true, Bool.false_eq_true, Bool.true_eq_false, Bool.not_true, Bool.not_false, ite_true, ite_false, Int.reduceLT, Int.reduceLE, Int.reduceNeg, Int.reducePow, or_true, true_or, not_true_eq_false, not_false_eq_true, exists_eq, exists_eq', and_false, false_and, not_true_eq_false, not_false_eq_true] at h ⊢ <;> exact h
abbrev s_first_of_year : Stmt := topS 14
theorem sc_first_of_year : FnScope ["y", "before", "leaps"] ["y"] (defScope s_first_of_year) := ⟨rfl, rfl, rfl, by decide +kernel, rfl, by decide +kernel, by decide +kernel⟩
def sp_first_of_year : Sp := sp1 (fun _ => True) fun y => .int (foy y)
theorem ok_first_of_year (B : Blt K mg tbl) (T : Txd K mg "first_of_year" s_first_of_year)  : Df P w K mg base "first_of_year" ["y"] 1 (sp_first_of_year) := by
  obtain ⟨f, fd, F, hm⟩ := T.ex
  refine ⟨f, fd, F.ok sc_first_of_year (fun vs H Q E h => ?_) (fun cdv A outer s H vs Q E hr h => ⟨_, (pss_cons (ps_set (i := 1) sc_first_of_year.nd rfl (Or.inl rfl) (pe_op op_sub (pv 0) pe_int))
    (pss_cons (ps_set (i := 2) sc_first_of_year.nd rfl (Or.inl rfl) (pe_op op_add (pe_op op_sub (pe_op op_fdiv (pv 1) pe_int) (pe_op op_fdiv (pv 1) pe_int)) (pe_op op_fdiv (pv 1) pe_int)))
    (pss_one (ps_ret (pe_op op_sub (pe_op op_add (pe_op op_mul (pv 1) (pe_gc (by rfl) B.DAYS_IN_YEAR)) (pv 2)) (pe_gc (by rfl) B.DAYS_BEFORE_1970)))))), ?_⟩), hm, F.kp, F.binds fun _ _ _ _ _ _ us hl => match us, hl with | [_], _ => rfl⟩
  · obtain ⟨y, rfl, _⟩ := h
    rfl
  · obtain ⟨y, rfl, _, h⟩ := h
    simp only [cxOf, tFld, HO.ins.injEq, tSeq, tLst, tTup, tNext, tBreak, tCont, tRet, tRetN, tDrop, tAsg, gName, tAug, ipI, tIfS, tIf, tTest, tChain, tB, tAnd, tOr, tNot, tAndV, tOrV, tNotV, tOp, tUn, rU, tVar, tC, rI, rI0, rEq, rNe, CDiv, CMul, tCall, tCB, tCons, tNil, sp1, sp2, sp3, sp4, L2.start, scal, List.map, List.length, List.replicate, List.append, List.cons_append, List.nil_append, List.append_nil, List.set_cons_zero, List.set_cons_succ, List.getElem?_cons_zero, List.getElem?_cons_succ, Option.some.injEq, V.int.injEq, V.bl.injEq, V.ref.injEq, List.cons.injEq, and_assoc, exists_and_left, exists_eq_left', exists_eq_left, and_true, true_and, decide_eq_true_eq, Bool.not_eq_true', decide_eq_false_iff_not, if_true, if_false, reduceCtorEq, decide_false, decide_true, Bool.false_eq_true, Bool.true_eq_false, Bool.not_true, Bool.not_false, ite_true, ite_false, Int.reduceLT, Int.reduceLE, Int.reduceNeg, Int.reducePow, or_true, true_or, not_true_eq_false, not_false_eq_true, exists_eq, exists_eq']
    exact h
abbrev s_day_number : Stmt := topS 15
theorem sc_day_number : FnScope ["y", "m", "d"] ["y", "m", "d"] (defScope s_day_number) := ⟨rfl, rfl, rfl, by decide +kernel, rfl, by decide +kernel, by decide +kernel⟩
def sp_day_number : Sp := sp3 (fun _ m _ => 1 ≤ m ∧ m ≤ 13) fun y m d => .int (dayNum y m d)
theorem ok_day_number (B : Blt K mg tbl) (T : Txd K mg "day_number" s_day_number) (D_first_of_year : Df P w K mg base "first_of_year" ["y"] 1 (sp_first_of_year)) (D_days_before_month : Df P w K mg base "days_before_month" ["y", "m"] 2 (sp_days_before_month)) : Df P w K mg base "day_number" ["y", "m", "d"] 3 (sp_day_number) := by
  obtain ⟨f, fd, F, hm⟩ := T.ex
  refine ⟨f, fd, F.ok sc_day_number (fun vs H Q E h => ?_) (fun cdv A outer s H vs Q E hr h => ⟨_, (pss_one (ps_ret (pe_op op_sub (pe_op op_add (pe_op op_add (pe_callD D_first_of_year hr (by decide) (by rfl) (pa_cons (pv 0) pa_nil)) (pe_callD D_days_before_month hr (by decide) (by rfl) (pa_cons (pv 0) (pa_cons (pv 1) pa_nil)))) (pv 2)) pe_int))), ?_⟩), hm, F.kp, F.binds fun _ _ _ _ _ _ us hl => match us, hl with | [_, _, _], _ => rfl⟩
  · obtain ⟨y, m, d, rfl, _⟩ := h
    rfl
  · obtain ⟨y, m, d, rfl, ⟨h1, h2⟩, h⟩ := h
    simp only [sp_first_of_year, sp_days_before_month, cxOf, tFld, HO.ins.injEq, tSeq, tLst, tTup, tNext, tBreak, tCont, tRet, tRetN, tDrop, tAsg, gName, tAug, ipI, tIfS, tIf, tTest, tChain, tB, tAnd, tOr, tNot, tAndV, tOrV, tNotV, tOp, tUn, rU, tVar, tC, rI, rI0, rEq, rNe, CDiv, CMul, tCall, tCB, tCons, tNil, sp1, sp2, sp3, sp4, L2.start, scal, List.map, List.length, List.replicate, List.append, List.cons_append, List.nil_append, List.append_nil, List.set_cons_zero, List.set_cons_succ, List.getElem?_cons_zero, List.getElem?_cons_succ, Option.some.injEq, V.int.injEq, V.bl.injEq, V.ref.injEq, List.cons.injEq, and_assoc, exists_and_left, exists_eq_left', exists_eq_left, and_true, true_and, decide_eq_true_eq, Bool.not_eq_true', decide_eq_false_iff_not, if_true, if_false, reduceCtorEq, decide_false, decide_true, Bool.false_eq_true, Bool.true_eq_false, Bool.not_true, Bool.not_false, ite_true, ite_false, Int.reduceLT, Int.reduceLE, Int.reduceNeg, Int.reducePow, or_true, true_or, not_true_eq_false, not_false_eq_true, exists_eq, exists_eq']
    exact ⟨h1, h2, h⟩
abbrev s_is_day : Stmt := topS 16
theorem sc_is_day : FnScope ["n"] ["n"] (defScope s_is_day) := ⟨rfl, rfl, rfl, by decide +kernel, rfl, by decide +kernel, by decide +kernel⟩
def sp_is_day : Sp := sp1 (fun _ => True) fun n => .bl (Tm.isDay n)
theorem ok_is_day (B : Blt K mg tbl) (T : Txd K mg "is_day" s_is_day)  : Df P w K mg base "is_day" ["n"] 1 (sp_is_day) := by
  obtain ⟨f, fd, F, hm⟩ := T.ex
  refine ⟨f, fd, F.ok sc_is_day (fun vs H Q E h => ?_) (fun cdv A outer s H vs Q E hr h => ⟨_, (pss_one (ps_ret (pe_chain op_le op_le (pe_un un_neg (pe_gc (by rfl) B.DAYS_BEFORE_1970)) (pv 0) (pe_gc (by rfl) B.LAST_DAY)))), ?_⟩), hm, F.kp, F.binds fun _ _ _ _ _ _ us hl => match us, hl with | [_], _ => rfl⟩
  · obtain ⟨n, rfl, _⟩ := h
    rfl
  · obtain ⟨n, rfl, _, h⟩ := h
    simp only [cxOf, tFld, HO.ins.injEq, tSeq, tLst, tTup, tNext, tBreak, tCont, tRet, tRetN, tDrop, tAsg, gName, tAug, ipI, tIfS, tIf, tTest, tChain, tB, tAnd, tOr, tNot, tAndV, tOrV, tNotV, tOp, tUn, rU, tVar, tC, rI, rI0, rEq, rNe, CDiv, CMul, tCall, tCB, tCons, tNil, sp1, sp2, sp3, sp4, L2.start, scal, List.map, List.length, List.replicate, List.append, List.cons_append, List.nil_append, List.append_nil, List.set_cons_zero, List.set_cons_succ, List.getElem?_cons_zero, List.getElem?_cons_succ, Option.some.injEq, V.int.injEq, V.bl.injEq, V.ref.injEq, List.cons.injEq, and_assoc, exists_and_left, exists_eq_left', exists_eq_left, and_true, true_and, decide_eq_true_eq, Bool.not_eq_true', decide_eq_false_iff_not, if_true, if_false, reduceCtorEq, decide_false, decide_true, Bool.false_eq_true, Bool.true_eq_false, Bool.not_true, Bool.not_false, ite_true, ite_false, Int.reduceLT, Int.reduceLE, Int.reduceNeg, Int.reducePow, or_true, true_or, not_true_eq_false, not_false_eq_true, exists_eq, exists_eq']
    replace h : Q (.bl (decide (-719162 ≤ n) && decide (n ≤ 2932896))) H := h
    by_cases c1 : -719162 ≤ n
    · rw [if_pos c1]
      rw [decide_eq_true c1, Bool.true_and] at h
      exact h
    · rw [if_neg c1]
      rw [decide_eq_false c1, Bool.false_and] at h
      exact h
abbrev s_year_of : Stmt := topS 17
theorem sc_year_of : FnScope ["n", "rest", "years", "hundreds", "fours", "ones"] ["n"] (defScope s_year_of) := ⟨rfl, rfl, rfl, by decide +kernel, rfl, by decide +kernel, by decide +kernel⟩
def sp_year_of : Sp := sp1 (fun _ => True) fun y => .int (yearM y)
theorem ok_year_of (B : Blt K mg tbl) (T : Txd K mg "year_of" s_year_of)  : Df P w K mg base "year_of" ["n"] 1 (sp_year_of) := by
  obtain ⟨f, fd, F, hm⟩ := T.ex
  refine ⟨f, fd, F.ok sc_year_of (fun vs H Q E h => ?_) (fun cdv A outer s H vs Q E hr h => ⟨_, (pss_cons (ps_set (i := 1) sc_year_of.nd rfl (Or.inl rfl) (pe_op op_add (pv 0) (pe_gc (by rfl) B.DAYS_BEFORE_1970)))
    (pss_cons (ps_set (i := 2) sc_year_of.nd rfl (Or.inl rfl) (pe_op op_mul (pe_op op_fdiv (pv 1) (pe_gc (by rfl) B.DAYS_IN_400_YEARS)) pe_int))
    (pss_cons (ps_set (i := 1) sc_year_of.nd rfl (Or.inl rfl) (pe_op op_mod (pv 1) (pe_gc (by rfl) B.DAYS_IN_400_YEARS)))
    (pss_cons (ps_set (i := 3) sc_year_of.nd rfl (Or.inl rfl) (pe_callB (call_min2 rfl) (by rfl) B.b_min (by decide +kernel) (pa_cons (pe_op op_fdiv (pv 1) (pe_gc (by rfl) B.DAYS_IN_100_YEARS)) (pa_cons pe_int pa_nil))))
    (pss_cons (ps_set (i := 1) sc_year_of.nd rfl (Or.inl rfl) (pe_op op_sub (pv 1) (pe_op op_mul (pv 3) (pe_gc (by rfl) B.DAYS_IN_100_YEARS))))
    (pss_cons (ps_set (i := 4) sc_year_of.nd rfl (Or.inl rfl) (pe_op op_fdiv (pv 1) (pe_gc (by rfl) B.DAYS_IN_4_YEARS)))
    (pss_cons (ps_set (i := 1) sc_year_of.nd rfl (Or.inl rfl) (pe_op op_mod (pv 1) (pe_gc (by rfl) B.DAYS_IN_4_YEARS)))
    (pss_cons (ps_set (i := 5) sc_year_of.nd rfl (Or.inl rfl) (pe_callB (call_min2 rfl) (by rfl) B.b_min (by decide +kernel) (pa_cons (pe_op op_fdiv (pv 1) (pe_gc (by rfl) B.DAYS_IN_YEAR)) (pa_cons pe_int pa_nil))))
    (pss_one (ps_ret (pe_op op_add (pe_op op_add (pe_op op_add (pe_op op_add (pv 2) (pe_op op_mul (pv 3) pe_int)) (pe_op op_mul (pv 4) pe_int)) (pv 5)) pe_int))))))))))), ?_⟩), hm, F.kp, F.binds fun _ _ _ _ _ _ us hl => match us, hl with | [_], _ => rfl⟩
  · obtain ⟨n, rfl, _⟩ := h
    rfl
  · obtain ⟨n, rfl, _, h⟩ := h
    simp only [cxOf, tFld, HO.ins.injEq, tSeq, tLst, tTup, tNext, tBreak, tCont, tRet, tRetN, tDrop, tAsg, gName, tAug, ipI, tIfS, tIf, tTest, tChain, tB, tAnd, tOr, tNot, tAndV, tOrV, tNotV, tOp, tUn, rU, tVar, tC, rI, rI0, rEq, rNe, CDiv, CMul, tCall, tCB, tCons, tNil, sp1, sp2, sp3, sp4, L2.start, scal, List.map, List.length, List.replicate, List.append, List.cons_append, List.nil_append, List.append_nil, List.set_cons_zero, List.set_cons_succ, List.getElem?_cons_zero, List.getElem?_cons_succ, Option.some.injEq, V.int.injEq, V.bl.injEq, V.ref.injEq, List.cons.injEq, and_assoc, exists_and_left, exists_eq_left', exists_eq_left, and_true, true_and, decide_eq_true_eq, Bool.not_eq_true', decide_eq_false_iff_not, if_true, if_false, reduceCtorEq, decide_false, decide_true, Bool.false_eq_true, Bool.true_eq_false, Bool.not_true, Bool.not_false, ite_true, ite_false, Int.reduceLT, Int.reduceLE, Int.reduceNeg, Int.reducePow, or_true, true_or, not_true_eq_false, not_false_eq_true, exists_eq, exists_eq']
    exact h
end
end Cc
set_option Elab.async false
set_option maxRecDepth 100000
set_option maxHeartbeats 2000000
set_option linter.unusedSimpArgs false
set_option linter.unusedVariables false
namespace Cc
open PySem PySem.Spec PyProof.Rows L2
section
variable {P : Program} {w : World} {K : PySem.W.Frag} {mg : Str → Option Value} {base : Heap} {tbl : Addr}
/-! ## Dates, weeks, the k-th weekday -/
/-- a day of the calendar -/
def Cal (n : Int) : Prop := -719162 ≤ n ∧ n ≤ 2932896
def dateL (n : Int) : List Int := [(Tm.dateOf n).1, ((Tm.dateOf n).2.1 : Nat), ((Tm.dateOf n).2.2 : Nat)]
def weekL (n : Int) : List Int := [(Tm.weekOf n).1, ((Tm.weekOf n).2 : Nat)]
/-- a promise that hands back a new list of whole numbers -/
def newL (H : Hp) (Q : VK) (l : List Int) : Prop := ∀ p, H p = none → Q (.ref p) (upd H p (.lst (l.map V.int)))
theorem len3 : 3 ≤ sizeLine := by decide
theorem len2 : 2 ≤ sizeLine := by decide
abbrev s_date_of : Stmt := topS 18
theorem sc_date_of : FnScope ["n", "y", "ahead", "m"] ["n"] (defScope s_date_of) := ⟨rfl, rfl, rfl, by decide +kernel, rfl, by decide +kernel, by decide +kernel⟩
def sp_date_of : Sp := fun vs H Q _ => ∃ n : Int, vs = [.int n] ∧ Cal n ∧ newL H Q (dateL n)
theorem dateL_is {n m : Int} (c : Cal n) (m1 : 1 ≤ m) (m2 : m ≤ 12) (a : dbm (yearM n) m ≤ n - foy (yearM n)) (b : n - foy (yearM n) < dbm (yearM n) (m + 1)) :
    dateL n = [yearM n, m, n - foy (yearM n) - dbm (yearM n) m + 1] := by
  unfold dateL
  rw [dateOf_is (yearM_is n) c.1 c.2 m1 m2 a b]
  show [yearM n, ((m.toNat : Nat) : Int), (((n - foy (yearM n) - dbm (yearM n) m + 1).toNat : Nat) : Int)] = _
  rw [Int.toNat_of_nonneg (by omega), Int.toNat_of_nonneg (by omega)]
theorem ok_date_of (B : Blt K mg tbl) (T : Txd K mg "date_of" s_date_of) (D_year_of : Df P w K mg base "year_of" ["n"] 1 (sp_year_of)) (D_first_of_year : Df P w K mg base "first_of_year" ["y"] 1 (sp_first_of_year)) (D_days_before_month : Df P w K mg base "days_before_month" ["y", "m"] 2 (sp_days_before_month)) : Df P w K mg base "date_of" ["n"] 3 (sp_date_of) := by
  obtain ⟨f, fd, F, hm⟩ := T.ex
  refine ⟨f, fd, F.ok sc_date_of (fun vs H Q E h => ?_) (fun cdv A outer s H vs Q E hr h => ⟨_, (pss_cons (ps_set (i := 1) sc_date_of.nd rfl (Or.inl rfl) (pe_callD D_year_of hr (by decide) (by rfl) (pa_cons (pv 0) pa_nil)))
    (pss_cons (ps_set (i := 2) sc_date_of.nd rfl (Or.inl rfl) (pe_op op_sub (pv 0) (pe_callD D_first_of_year hr (by decide) (by rfl) (pa_cons (pv 1) pa_nil))))
    (pss_cons (ps_set (i := 3) sc_date_of.nd rfl (Or.inl rfl) pe_int)
    (pss_cons (ps_while PassesOwn.never (pt_cmpR op_le (pe_callD D_days_before_month hr (by decide) (by rfl) (pa_cons (pv 1) (pa_cons (pe_op op_add (pv 3) pe_int) pa_nil))) (pv 2) (nomark _))
     (pss_one (ps_aug (i := 3) sc_date_of.nd rfl (Or.inl rfl) pe_int ip_add)))
    (pss_one (ps_ret (pe_lst (pa_cons (pv 1) (pa_cons (pv 3) (pa_cons (pe_op op_add (pe_op op_sub (pv 2) (pe_callD D_days_before_month hr (by decide) (by rfl) (pa_cons (pv 1) (pa_cons (pv 3) pa_nil)))) pe_int) pa_nil)))))))))), ?_⟩), hm, F.kp, F.binds fun _ _ _ _ _ _ us hl => match us, hl with | [_], _ => rfl⟩
  · obtain ⟨y, rfl, _⟩ := h
    rfl
  · obtain ⟨n, rfl, c, h⟩ := h
    simp only [sp_year_of, sp_first_of_year, cxOf, tFld, HO.ins.injEq, tSeq, tLst, tTup, tNext, tBreak, tCont, tRet, tRetN, tDrop, tAsg, gName, tAug, ipI, tIfS, tIf, tTest, tChain, tB, tAnd, tOr, tNot, tAndV, tOrV, tNotV, tOp, tUn, rU, tVar, tC, rI, rI0, rEq, rNe, CDiv, CMul, tCall, tCB, tCons, tNil, sp1, sp2, sp3, sp4, L2.start, scal, List.map, List.length, List.replicate, List.append, List.cons_append, List.nil_append, List.append_nil, List.set_cons_zero, List.set_cons_succ, List.getElem?_cons_zero, List.getElem?_cons_succ, Option.some.injEq, V.int.injEq, V.bl.injEq, V.ref.injEq, List.cons.injEq, and_assoc, exists_and_left, exists_eq_left', exists_eq_left, and_true, true_and, decide_eq_true_eq, Bool.not_eq_true', decide_eq_false_iff_not, if_true, if_false, reduceCtorEq, decide_false, decide_true, Bool.false_eq_true, Bool.true_eq_false, Bool.not_true, Bool.not_false, ite_true, ite_false, Int.reduceLT, Int.reduceLE, Int.reduceNeg, Int.reducePow, or_true, true_or, not_true_eq_false, not_false_eq_true, exists_eq, exists_eq']
    have hy := yearM_is n
    have hr := yearM_range c.1 c.2
    have h13 := dbm_13 (yearM n)
    refine ⟨fun q σ H' => H' = H ∧ ∃ m : Int, q = (13 - m).toNat ∧ σ = [some (.int n), some (.int (yearM n)), some (.int (n - foy (yearM n))), some (.int m)] ∧ 1 ≤ m ∧ m ≤ 12 ∧ dbm (yearM n) m ≤ n - foy (yearM n), ⟨_, rfl, 1, rfl, rfl, by omega, by omega, by rw [dbm_one]; omega⟩, ?_⟩
    rintro q σ H' ⟨rfl, m, rfl, rfl, m1, m2, hm⟩
    simp only [sp_days_before_month, cxOf, tFld, HO.ins.injEq, tSeq, tLst, tTup, tNext, tBreak, tCont, tRet, tRetN, tDrop, tAsg, gName, tAug, ipI, tIfS, tIf, tTest, tChain, tB, tAnd, tOr, tNot, tAndV, tOrV, tNotV, tOp, tUn, rU, tVar, tC, rI, rI0, rEq, rNe, CDiv, CMul, tCall, tCB, tCons, tNil, sp1, sp2, sp3, sp4, L2.start, scal, List.map, List.length, List.replicate, List.append, List.cons_append, List.nil_append, List.append_nil, List.set_cons_zero, List.set_cons_succ, List.getElem?_cons_zero, List.getElem?_cons_succ, Option.some.injEq, V.int.injEq, V.bl.injEq, V.ref.injEq, List.cons.injEq, and_assoc, exists_and_left, exists_eq_left', exists_eq_left, and_true, true_and, decide_eq_true_eq, Bool.not_eq_true', decide_eq_false_iff_not, if_true, if_false, reduceCtorEq, decide_false, decide_true, Bool.false_eq_true, Bool.true_eq_false, Bool.not_true, Bool.not_false, ite_true, ite_false, Int.reduceLT, Int.reduceLE, Int.reduceNeg, Int.reducePow, or_true, true_or, not_true_eq_false, not_false_eq_true, exists_eq, exists_eq']
    refine ⟨by omega, by omega, ?_⟩
    by_cases t : dbm (yearM n) (m + 1) ≤ n - foy (yearM n)
    · rw [if_pos t]
      refine ⟨_, fun _ _ z => z, ?_⟩
      have m12 : m ≤ 11 := by
        by_cases z : m = 12
        · subst z
          have e : dbm (yearM n) (12 + 1) = dbm (yearM n) 13 := rfl
          omega
        · omega
      refine ⟨_, ?_, rfl, _, rfl, rfl, by omega, by omega, t⟩
      omega
    · rw [if_neg t]
      refine ⟨by omega, by omega, len3, fun p hp => ?_⟩
      have e := dateL_is c m1 m2 hm (by omega)
      have := h p hp
      rw [e] at this
      exact this
abbrev s_weekday_of : Stmt := topS 22
theorem sc_weekday_of : FnScope ["n"] ["n"] (defScope s_weekday_of) := ⟨rfl, rfl, rfl, by decide +kernel, rfl, by decide +kernel, by decide +kernel⟩
def sp_weekday_of : Sp := sp1 (fun _ => True) fun n => .int (wdM n)
theorem ok_weekday_of (B : Blt K mg tbl) (T : Txd K mg "weekday_of" s_weekday_of)  : Df P w K mg base "weekday_of" ["n"] 1 (sp_weekday_of) := by
  obtain ⟨f, fd, F, hm⟩ := T.ex
  refine ⟨f, fd, F.ok sc_weekday_of (fun vs H Q E h => ?_) (fun cdv A outer s H vs Q E hr h => ⟨_, (pss_one (ps_ret (pe_op op_mod (pe_op op_add (pv 0) pe_int) pe_int))), ?_⟩), hm, F.kp, F.binds fun _ _ _ _ _ _ us hl => match us, hl with | [_], _ => rfl⟩
  · obtain ⟨y, rfl, _⟩ := h
    rfl
  · obtain ⟨y, rfl, _, h⟩ := h
    simp only [cxOf, tFld, HO.ins.injEq, tSeq, tLst, tTup, tNext, tBreak, tCont, tRet, tRetN, tDrop, tAsg, gName, tAug, ipI, tIfS, tIf, tTest, tChain, tB, tAnd, tOr, tNot, tAndV, tOrV, tNotV, tOp, tUn, rU, tVar, tC, rI, rI0, rEq, rNe, CDiv, CMul, tCall, tCB, tCons, tNil, sp1, sp2, sp3, sp4, L2.start, scal, List.map, List.length, List.replicate, List.append, List.cons_append, List.nil_append, List.append_nil, List.set_cons_zero, List.set_cons_succ, List.getElem?_cons_zero, List.getElem?_cons_succ, Option.some.injEq, V.int.injEq, V.bl.injEq, V.ref.injEq, List.cons.injEq, and_assoc, exists_and_left, exists_eq_left', exists_eq_left, and_true, true_and, decide_eq_true_eq, Bool.not_eq_true', decide_eq_false_iff_not, if_true, if_false, reduceCtorEq, decide_false, decide_true, Bool.false_eq_true, Bool.true_eq_false, Bool.not_true, Bool.not_false, ite_true, ite_false, Int.reduceLT, Int.reduceLE, Int.reduceNeg, Int.reducePow, or_true, true_or, not_true_eq_false, not_false_eq_true, exists_eq, exists_eq']
    exact h
abbrev s_week_of : Stmt := topS 23
theorem sc_week_of : FnScope ["n", "thursday", "y"] ["n"] (defScope s_week_of) := ⟨rfl, rfl, rfl, by decide +kernel, rfl, by decide +kernel, by decide +kernel⟩
def sp_week_of : Sp := fun vs H Q _ => ∃ n : Int, vs = [.int n] ∧ Cal n ∧ newL H Q (weekL n)
theorem ok_week_of (B : Blt K mg tbl) (T : Txd K mg "week_of" s_week_of) (D_year_of : Df P w K mg base "year_of" ["n"] 1 (sp_year_of)) (D_weekday_of : Df P w K mg base "weekday_of" ["n"] 1 (sp_weekday_of)) (D_first_of_year : Df P w K mg base "first_of_year" ["y"] 1 (sp_first_of_year)) : Df P w K mg base "week_of" ["n"] 2 (sp_week_of) := by
  obtain ⟨f, fd, F, hm⟩ := T.ex
  refine ⟨f, fd, F.ok sc_week_of (fun vs H Q E h => ?_) (fun cdv A outer s H vs Q E hr h => ⟨_, (pss_cons (ps_set (i := 1) sc_week_of.nd rfl (Or.inl rfl) (pe_op op_add (pe_op op_sub (pv 0) (pe_callD D_weekday_of hr (by decide) (by rfl) (pa_cons (pv 0) pa_nil))) pe_int))
    (pss_cons (ps_set (i := 2) sc_week_of.nd rfl (Or.inl rfl) (pe_callD D_year_of hr (by decide) (by rfl) (pa_cons (pv 1) pa_nil)))
    (pss_one (ps_ret (pe_lst (pa_cons (pv 2) (pa_cons (pe_op op_add (pe_op op_fdiv (pe_op op_sub (pv 1) (pe_callD D_first_of_year hr (by decide) (by rfl) (pa_cons (pv 2) pa_nil))) pe_int) pe_int) pa_nil))))))), ?_⟩), hm, F.kp, F.binds fun _ _ _ _ _ _ us hl => match us, hl with | [_], _ => rfl⟩
  · obtain ⟨y, rfl, _⟩ := h
    rfl
  · obtain ⟨n, rfl, c, h⟩ := h
    simp only [sp_weekday_of, sp_year_of, sp_first_of_year, cxOf, tFld, HO.ins.injEq, tSeq, tLst, tTup, tNext, tBreak, tCont, tRet, tRetN, tDrop, tAsg, gName, tAug, ipI, tIfS, tIf, tTest, tChain, tB, tAnd, tOr, tNot, tAndV, tOrV, tNotV, tOp, tUn, rU, tVar, tC, rI, rI0, rEq, rNe, CDiv, CMul, tCall, tCB, tCons, tNil, sp1, sp2, sp3, sp4, L2.start, scal, List.map, List.length, List.replicate, List.append, List.cons_append, List.nil_append, List.append_nil, List.set_cons_zero, List.set_cons_succ, List.getElem?_cons_zero, List.getElem?_cons_succ, Option.some.injEq, V.int.injEq, V.bl.injEq, V.ref.injEq, List.cons.injEq, and_assoc, exists_and_left, exists_eq_left', exists_eq_left, and_true, true_and, decide_eq_true_eq, Bool.not_eq_true', decide_eq_false_iff_not, if_true, if_false, reduceCtorEq, decide_false, decide_true, Bool.false_eq_true, Bool.true_eq_false, Bool.not_true, Bool.not_false, ite_true, ite_false, Int.reduceLT, Int.reduceLE, Int.reduceNeg, Int.reducePow, or_true, true_or, not_true_eq_false, not_false_eq_true, exists_eq, exists_eq']
    refine ⟨len2, fun p hp => ?_⟩
    have e := weekOf_eq c.1 c.2
    have := h p hp
    unfold weekL at this
    rw [e.1, e.2] at this
    exact this
abbrev s_nth_weekday : Stmt := topS 24
theorem sc_nth_weekday : FnScope ["y", "m", "k", "w", "first", "d"] ["y", "m", "k", "w"] (defScope s_nth_weekday) := ⟨rfl, rfl, rfl, by decide +kernel, rfl, by decide +kernel, by decide +kernel⟩
def sp_nth_weekday : Sp := sp4 (fun _ m _ _ => 1 ≤ m ∧ m ≤ 12) fun y m k w => .int (nthWd y m k w)
theorem ok_nth_weekday (B : Blt K mg tbl) (T : Txd K mg "nth_weekday" s_nth_weekday) (D_day_number : Df P w K mg base "day_number" ["y", "m", "d"] 3 (sp_day_number)) (D_month_length : Df P w K mg base "month_length" ["y", "m"] 3 (sp_month_length)) (D_weekday_of : Df P w K mg base "weekday_of" ["n"] 1 (sp_weekday_of)) : Df P w K mg base "nth_weekday" ["y", "m", "k", "w"] 4 (sp_nth_weekday) := by
  obtain ⟨f, fd, F, hm⟩ := T.ex
  refine ⟨f, fd, F.ok sc_nth_weekday (fun vs H Q E h => ?_) (fun cdv A outer s H vs Q E hr h => ⟨_, (pss_cons (ps_set (i := 4) sc_nth_weekday.nd rfl (Or.inl rfl) (pe_callD D_day_number hr (by decide) (by rfl) (pa_cons (pv 0) (pa_cons (pv 1) (pa_cons pe_int pa_nil)))))
    (pss_cons (ps_set (i := 5) sc_nth_weekday.nd rfl (Or.inl rfl) (pe_op op_add (pe_op op_add pe_int (pe_op op_mod (pe_op op_sub (pv 3) (pe_callD D_weekday_of hr (by decide) (by rfl) (pa_cons (pv 4) pa_nil))) pe_int)) (pe_op op_mul pe_int (pe_op op_sub (pv 2) pe_int))))
    (pss_cons (ps_if (pt_cmpR op_gt (pv 5) (pe_callD D_month_length hr (by decide) (by rfl) (pa_cons (pv 0) (pa_cons (pv 1) pa_nil))) (nomark _))
     (pss_one (ps_aug (i := 5) sc_nth_weekday.nd rfl (Or.inl rfl) pe_int ip_sub))
     pss_nil)
    (pss_one (ps_ret (pe_op op_sub (pe_op op_add (pv 4) (pv 5)) pe_int)))))), ?_⟩), hm, F.kp, F.binds fun _ _ _ _ _ _ us hl => match us, hl with | [_, _, _, _], _ => rfl⟩
  · obtain ⟨y, m, k, d, rfl, _⟩ := h
    rfl
  · obtain ⟨y, m, k, d, rfl, ⟨m1, m2⟩, h⟩ := h
    simp only [sp_day_number, sp_weekday_of, sp_month_length, cxOf, tFld, HO.ins.injEq, tSeq, tLst, tTup, tNext, tBreak, tCont, tRet, tRetN, tDrop, tAsg, gName, tAug, ipI, tIfS, tIf, tTest, tChain, tB, tAnd, tOr, tNot, tAndV, tOrV, tNotV, tOp, tUn, rU, tVar, tC, rI, rI0, rEq, rNe, CDiv, CMul, tCall, tCB, tCons, tNil, sp1, sp2, sp3, sp4, L2.start, scal, List.map, List.length, List.replicate, List.append, List.cons_append, List.nil_append, List.append_nil, List.set_cons_zero, List.set_cons_succ, List.getElem?_cons_zero, List.getElem?_cons_succ, Option.some.injEq, V.int.injEq, V.bl.injEq, V.ref.injEq, List.cons.injEq, and_assoc, exists_and_left, exists_eq_left', exists_eq_left, and_true, true_and, decide_eq_true_eq, Bool.not_eq_true', decide_eq_false_iff_not, if_true, if_false, reduceCtorEq, decide_false, decide_true, Bool.false_eq_true, Bool.true_eq_false, Bool.not_true, Bool.not_false, ite_true, ite_false, Int.reduceLT, Int.reduceLE, Int.reduceNeg, Int.reducePow, or_true, true_or, not_true_eq_false, not_false_eq_true, exists_eq, exists_eq']
    refine ⟨m1, by omega, m1, m2, ?_⟩
    replace h : Q (.int (dayNum y m 1 + (if mlen y m < 1 + (d - wdM (dayNum y m 1)) % 7 + 7 * (k - 1) then 1 + (d - wdM (dayNum y m 1)) % 7 + 7 * (k - 1) - 7 else 1 + (d - wdM (dayNum y m 1)) % 7 + 7 * (k - 1)) - 1)) H := h
    split
    · next t => rw [if_pos t] at h; exact h
    · next t => rw [if_neg t] at h; exact h
abbrev s_is_moment : Stmt := topS 25
theorem sc_is_moment : FnScope ["t"] ["t"] (defScope s_is_moment) := ⟨rfl, rfl, rfl, by decide +kernel, rfl, by decide +kernel, by decide +kernel⟩
def sp_is_moment : Sp := sp1 (fun _ => True) fun t => .bl (Tm.isMoment t)
theorem ok_is_moment (B : Blt K mg tbl) (T : Txd K mg "is_moment" s_is_moment) (D_is_day : Df P w K mg base "is_day" ["n"] 1 (sp_is_day)) : Df P w K mg base "is_moment" ["t"] 2 (sp_is_moment) := by
  obtain ⟨f, fd, F, hm⟩ := T.ex
  refine ⟨f, fd, F.ok sc_is_moment (fun vs H Q E h => ?_) (fun cdv A outer s H vs Q E hr h => ⟨_, (pss_one (ps_ret (pe_callD D_is_day hr (by decide) (by rfl) (pa_cons (pe_op op_fdiv (pv 0) (pe_gc (by rfl) B.DAY_SECONDS)) pa_nil)))), ?_⟩), hm, F.kp, F.binds fun _ _ _ _ _ _ us hl => match us, hl with | [_], _ => rfl⟩
  · obtain ⟨y, rfl, _⟩ := h
    rfl
  · obtain ⟨t, rfl, _, h⟩ := h
    simp only [sp_is_day, cxOf, tFld, HO.ins.injEq, tSeq, tLst, tTup, tNext, tBreak, tCont, tRet, tRetN, tDrop, tAsg, gName, tAug, ipI, tIfS, tIf, tTest, tChain, tB, tAnd, tOr, tNot, tAndV, tOrV, tNotV, tOp, tUn, rU, tVar, tC, rI, rI0, rEq, rNe, CDiv, CMul, tCall, tCB, tCons, tNil, sp1, sp2, sp3, sp4, L2.start, scal, List.map, List.length, List.replicate, List.append, List.cons_append, List.nil_append, List.append_nil, List.set_cons_zero, List.set_cons_succ, List.getElem?_cons_zero, List.getElem?_cons_succ, Option.some.injEq, V.int.injEq, V.bl.injEq, V.ref.injEq, List.cons.injEq, and_assoc, exists_and_left, exists_eq_left', exists_eq_left, and_true, true_and, decide_eq_true_eq, Bool.not_eq_true', decide_eq_false_iff_not, if_true, if_false, reduceCtorEq, decide_false, decide_true, Bool.false_eq_true, Bool.true_eq_false, Bool.not_true, Bool.not_false, ite_true, ite_false, Int.reduceLT, Int.reduceLE, Int.reduceNeg, Int.reducePow, or_true, true_or, not_true_eq_false, not_false_eq_true, exists_eq, exists_eq']
    replace h : Q (.bl (Tm.isMoment t)) H := h
    rw [isMoment_eq] at h
    exact h
end
end Cc
set_option Elab.async false
set_option maxRecDepth 100000
set_option maxHeartbeats 2000000
set_option linter.unusedSimpArgs false
set_option linter.unusedVariables false
namespace Cc
open PySem PySem.Spec PyProof.Rows L2
/-! ## How clocks lie in the heap -/
def chF (x : Int × Int) : List (Str × V) := [("moment", .int x.1), ("offset", .int x.2)]
def ruF (r : R5) : List (Str × V) := [("month", .int r.m), ("k", .int r.k), ("weekday", .int r.w), ("second", .int r.s), ("offset", .int r.o)]
def ckF (f : Int) (la lr : Addr) : List (Str × V) := [("first", .int f), ("changes", .ref la), ("rules", .ref lr)]
theorem lk_here {k : Str} {v : V} {r : List (Str × V)} : List.lookup k ((k, v) :: r) = some v := by
  have e : (k == k) = true := beq_self_eq_true k
  simp only [List.lookup, e]
theorem lk_past {k g : Str} {v : V} {r : List (Str × V)} (h : (k == g) = false) : List.lookup k ((g, v) :: r) = List.lookup k r := by
  simp only [List.lookup, h]
theorem put_here {f : Str} {v x : V} {r : List (Str × V)} : putF f v ((f, x) :: r) = (f, v) :: r := if_pos rfl
theorem put_past {f g : Str} {v x : V} {r : List (Str × V)} (h : ¬ g = f) : putF f v ((g, x) :: r) = (g, x) :: putF f v r := if_neg h
theorem put_nil {f : Str} {v : V} : putF f v [] = [(f, v)] := rfl
theorem chF_moment (x : Int × Int) : (chF x).lookup ("moment" : Str) = some (.int x.1) := lk_here
theorem chF_offset (x : Int × Int) : (chF x).lookup ("offset" : Str) = some (.int x.2) := (lk_past (by decide +kernel)).trans lk_here
theorem ruF_month (r : R5) : (ruF r).lookup ("month" : Str) = some (.int r.m) := lk_here
theorem ruF_k (r : R5) : (ruF r).lookup ("k" : Str) = some (.int r.k) := (lk_past (by decide +kernel)).trans lk_here
theorem ruF_weekday (r : R5) : (ruF r).lookup ("weekday" : Str) = some (.int r.w) := (lk_past (by decide +kernel)).trans ((lk_past (by decide +kernel)).trans lk_here)
theorem ruF_second (r : R5) : (ruF r).lookup ("second" : Str) = some (.int r.s) := (lk_past (by decide +kernel)).trans ((lk_past (by decide +kernel)).trans ((lk_past (by decide +kernel)).trans lk_here))
theorem ruF_offset (r : R5) : (ruF r).lookup ("offset" : Str) = some (.int r.o) := (lk_past (by decide +kernel)).trans ((lk_past (by decide +kernel)).trans ((lk_past (by decide +kernel)).trans ((lk_past (by decide +kernel)).trans lk_here)))
theorem ckF_first (f : Int) (la lr : Addr) : (ckF f la lr).lookup ("first" : Str) = some (.int f) := lk_here
theorem ckF_changes (f : Int) (la lr : Addr) : (ckF f la lr).lookup ("changes" : Str) = some (.ref la) := (lk_past (by decide +kernel)).trans lk_here
theorem ckF_rules (f : Int) (la lr : Addr) : (ckF f la lr).lookup ("rules" : Str) = some (.ref lr) := (lk_past (by decide +kernel)).trans ((lk_past (by decide +kernel)).trans lk_here)
/-- what the top has written of the clocks' classes -/
structure Clz (K : PySem.W.Frag) (cc cr cl : Addr) : Prop where
  ch : Cls K cc
  ru : Cls K cr
  ck : Cls K cl
  ch1 : NoAttr K cc "moment"
  ch2 : NoAttr K cc "offset"
  ru1 : NoAttr K cr "month"
  ru2 : NoAttr K cr "k"
  ru3 : NoAttr K cr "weekday"
  ru4 : NoAttr K cr "second"
  ru5 : NoAttr K cr "offset"
  ck1 : NoAttr K cl "first"
  ck2 : NoAttr K cl "changes"
  ck3 : NoAttr K cl "rules"
/-- a change, a rule, a clock at an address -/
def ChgAt (cc : Addr) (H : Hp) (a : Addr) (x : Int × Int) : Prop := ∃ dx, H a = some (.ins cc dx (chF x))
def RulAt (cr : Addr) (H : Hp) (a : Addr) (r : R5) : Prop := ∃ dx, H a = some (.ins cr dx (ruF r))
/-- a list of objects: each stands for an item -/
def LstAt {α : Type} (R : Addr → α → Prop) (H : Hp) (l : Addr) (xs : List α) : Prop := ∃ as : List Addr, H l = some (.lst (as.map V.ref)) ∧ as.length = xs.length ∧ ∀ (i : Nat) (a : Addr) (x : α), as[i]? = some a → xs[i]? = some x → R a x
def ClkAt (cc cr cl : Addr) (H : Hp) (a : Addr) (c : Ck) : Prop := ∃ dx la lr, H a = some (.ins cl dx (ckF c.first la lr)) ∧ LstAt (ChgAt cc H) H la c.changes ∧ LstAt (RulAt cr H) H lr c.rules
theorem ChgAt.same {cc : Addr} {H H' : Hp} {a : Addr} {x : Int × Int} (s : Same H H') (h : ChgAt cc H a x) : ChgAt cc H' a x := by
  obtain ⟨dx, h⟩ := h
  exact ⟨dx, s _ _ h⟩
theorem RulAt.same {cr : Addr} {H H' : Hp} {a : Addr} {x : R5} (s : Same H H') (h : RulAt cr H a x) : RulAt cr H' a x := by
  obtain ⟨dx, h⟩ := h
  exact ⟨dx, s _ _ h⟩
theorem LstAt.same {α : Type} {R R' : Addr → α → Prop} {H H' : Hp} {l : Addr} {xs : List α} (s : Same H H') (r : ∀ a x, R a x → R' a x) (h : LstAt R H l xs) : LstAt R' H' l xs := by
  obtain ⟨as, h1, h2, h3⟩ := h
  exact ⟨as, s _ _ h1, h2, fun i a x ha hx => r a x (h3 i a x ha hx)⟩
theorem ClkAt.same {cc cr cl : Addr} {H H' : Hp} {a : Addr} {c : Ck} (s : Same H H') (h : ClkAt cc cr cl H a c) : ClkAt cc cr cl H' a c := by
  obtain ⟨dx, la, lr, h1, h2, h3⟩ := h
  exact ⟨dx, la, lr, s _ _ h1, h2.same s fun _ _ q => q.same s, h3.same s fun _ _ q => q.same s⟩
/-- a new thing beside what stands -/
theorem Same.new {H : Hp} {p : Addr} {o : HO} (h : H p = none) : Same H (upd H p o) := fun b q e => by
  rw [upd_ne (fun z => by rw [z, h] at e; cases e)]
  exact e
/-- a new instance whose fields an __init__ sets: all else stands -/
def spMk (C : Addr) (ok : List V → List (Str × V) → Prop) : Sp := fun vs H Q _ => ∃ (p dx : Addr) (us : List V) (fs : List (Str × V)), vs = .ref p :: us ∧ ok us fs ∧ H p = some (.ins C dx []) ∧ Q .non (upd H p (.ins C dx fs))
theorem upd_upd {H : Hp} {p : Addr} {a b : HO} : upd (upd H p a) p b = upd H p b := by
  funext q
  unfold upd
  split <;> rfl
/-- making an instance -/
theorem made {C : Addr} {ok : List V → List (Str × V) → Prop} {us : List V} {fs : List (Str × V)} {H : Hp} {Q : VK} {E : XK} (h : ok us fs) (k : ∀ x dx H', Same H H' → H x = none → H' x = some (.ins C dx fs) → Q (.ref x) H') :
    ∀ x dx, H x = none → H dx = none → dx ≠ x → spMk C ok (.ref x :: (us ++ [])) (upd (upd H dx (.own x)) x (.ins C dx [])) (fun v H2 => v = .non ∧ Q (.ref x) H2) E := by
  intro x dx hx hd ne
  refine ⟨x, dx, us, fs, by rw [List.append_nil], h, upd_same, rfl, ?_⟩
  rw [upd_upd]
  refine k x dx _ ?_ hx upd_same
  intro b o e
  rw [upd_ne (fun z => by rw [z, hx] at e; cases e), upd_ne (fun z => by rw [z, hd] at e; cases e)]
  exact e
section
variable {P : Program} {w : World} {K : PySem.W.Frag} {mg : Str → Option Value} {base : Heap} {tbl C_Change C_Rule C_Clock : Addr}
abbrev s_Change : Stmt := inClass (topS 28) 0
theorem sc_Change : FnScope ["self", "moment", "offset"] ["self", "moment", "offset"] (defScope s_Change) := ⟨rfl, rfl, rfl, by decide +kernel, rfl, by decide +kernel, by decide +kernel⟩
def sp_Change (cc : Addr) : Sp := spMk cc fun us fs => ∃ x : Int × Int, us = [.int x.1, .int x.2] ∧ fs = chF x
theorem ok_Change (B : Blt K mg tbl) (Z : Clz K C_Change C_Rule C_Clock) (T : Txc K mg "Change" C_Change "Change.__init__" s_Change)  : Dc P w K mg base "Change" C_Change ["self", "moment", "offset"] 1 (sp_Change C_Change) := by
  obtain ⟨f, fd, F, M, hm⟩ := T.ex
  refine ⟨f, fd, F.ok sc_Change (fun vs H Q E h => ?_) (fun cdv A outer s H vs Q E hr h => ⟨_, (pss_cons (ps_fld (pv 0) (pv 1) rfl)
    (pss_one (ps_fld (pv 0) (pv 2) rfl))), ?_⟩), M, hm, F.binds fun _ _ _ _ _ _ us hl => match us, hl with | [_, _, _], _ => rfl⟩
  · obtain ⟨p, dx, us, fs, rfl, ⟨x, rfl, rfl⟩, _⟩ := h
    rfl
  · obtain ⟨p, dx, us, fs, rfl, ⟨x, rfl, rfl⟩, hp, h⟩ := h
    refine ⟨_, rfl, _, rfl, p, _, dx, _, rfl, hp, Z.ch, Z.ch1, by decide, ?_⟩
    refine ⟨_, rfl, _, rfl, p, _, dx, _, rfl, upd_same, Z.ch, Z.ch2, (by show 1 < 1000; decide), ?_⟩
    rw [upd_upd]
    exact h
abbrev s_Rule : Stmt := inClass (topS 29) 0
theorem sc_Rule : FnScope ["self", "month", "k", "weekday", "second", "offset"] ["self", "month", "k", "weekday", "second", "offset"] (defScope s_Rule) := ⟨rfl, rfl, rfl, by decide +kernel, rfl, by decide +kernel, by decide +kernel⟩
def sp_Rule (cr : Addr) : Sp := spMk cr fun us fs => ∃ r : R5, us = [.int r.m, .int r.k, .int r.w, .int r.s, .int r.o] ∧ fs = ruF r
theorem ok_Rule (B : Blt K mg tbl) (Z : Clz K C_Change C_Rule C_Clock) (T : Txc K mg "Rule" C_Rule "Rule.__init__" s_Rule)  : Dc P w K mg base "Rule" C_Rule ["self", "month", "k", "weekday", "second", "offset"] 1 (sp_Rule C_Rule) := by
  obtain ⟨f, fd, F, M, hm⟩ := T.ex
  refine ⟨f, fd, F.ok sc_Rule (fun vs H Q E h => ?_) (fun cdv A outer s H vs Q E hr h => ⟨_, (pss_cons (ps_fld (pv 0) (pv 1) rfl)
    (pss_cons (ps_fld (pv 0) (pv 2) rfl)
    (pss_cons (ps_fld (pv 0) (pv 3) rfl)
    (pss_cons (ps_fld (pv 0) (pv 4) rfl)
    (pss_one (ps_fld (pv 0) (pv 5) rfl)))))), ?_⟩), M, hm, F.binds fun _ _ _ _ _ _ us hl => match us, hl with | [_, _, _, _, _, _], _ => rfl⟩
  · obtain ⟨p, dx, us, fs, rfl, ⟨x, rfl, rfl⟩, _⟩ := h
    rfl
  · obtain ⟨p, dx, us, fs, rfl, ⟨x, rfl, rfl⟩, hp, h⟩ := h
    refine ⟨_, rfl, _, rfl, p, _, dx, _, rfl, hp, Z.ru, Z.ru1, by decide, ?_⟩
    refine ⟨_, rfl, _, rfl, p, _, dx, _, rfl, upd_same, Z.ru, Z.ru2, (by show 1 < 1000; decide), ?_⟩
    rw [upd_upd]
    refine ⟨_, rfl, _, rfl, p, _, dx, _, rfl, upd_same, Z.ru, Z.ru3, (by show 2 < 1000; decide), ?_⟩
    rw [upd_upd]
    refine ⟨_, rfl, _, rfl, p, _, dx, _, rfl, upd_same, Z.ru, Z.ru4, (by show 3 < 1000; decide), ?_⟩
    rw [upd_upd]
    refine ⟨_, rfl, _, rfl, p, _, dx, _, rfl, upd_same, Z.ru, Z.ru5, (by show 4 < 1000; decide), ?_⟩
    rw [upd_upd]
    exact h
abbrev s_Clock : Stmt := inClass (topS 30) 0
theorem sc_Clock : FnScope ["self", "first", "changes", "rules"] ["self", "first", "changes", "rules"] (defScope s_Clock) := ⟨rfl, rfl, rfl, by decide +kernel, rfl, by decide +kernel, by decide +kernel⟩
def sp_Clock (cl : Addr) : Sp := spMk cl fun us fs => ∃ (f : Int) (la lr : Addr), us = [.int f, .ref la, .ref lr] ∧ fs = ckF f la lr
theorem ok_Clock (B : Blt K mg tbl) (Z : Clz K C_Change C_Rule C_Clock) (T : Txc K mg "Clock" C_Clock "Clock.__init__" s_Clock)  : Dc P w K mg base "Clock" C_Clock ["self", "first", "changes", "rules"] 1 (sp_Clock C_Clock) := by
  obtain ⟨f, fd, F, M, hm⟩ := T.ex
  refine ⟨f, fd, F.ok sc_Clock (fun vs H Q E h => ?_) (fun cdv A outer s H vs Q E hr h => ⟨_, (pss_cons (ps_fld (pv 0) (pv 1) rfl)
    (pss_cons (ps_fld (pv 0) (pv 2) rfl)
    (pss_one (ps_fld (pv 0) (pv 3) rfl)))), ?_⟩), M, hm, F.binds fun _ _ _ _ _ _ us hl => match us, hl with | [_, _, _, _], _ => rfl⟩
  · obtain ⟨p, dx, us, fs, rfl, ⟨x, la, lr, rfl, rfl⟩, _⟩ := h
    rfl
  · obtain ⟨p, dx, us, fs, rfl, ⟨x, la, lr, rfl, rfl⟩, hp, h⟩ := h
    refine ⟨_, rfl, _, rfl, p, _, dx, _, rfl, hp, Z.ck, Z.ck1, by decide, ?_⟩
    refine ⟨_, rfl, _, rfl, p, _, dx, _, rfl, upd_same, Z.ck, Z.ck2, (by show 1 < 1000; decide), ?_⟩
    rw [upd_upd]
    refine ⟨_, rfl, _, rfl, p, _, dx, _, rfl, upd_same, Z.ck, Z.ck3, (by show 2 < 1000; decide), ?_⟩
    rw [upd_upd]
    exact h
/-! ## The defs of the clocks -/
/-- the numbers that were handed in, at an address -/
theorem at_nat {ns : List Int} {i : Int} (h0 : 0 ≤ i) (h1 : i < (ns.length : Int)) : atI (ns.map V.int) i = some (.int (ns.getD i.toNat 0)) := by
  unfold atI ixN
  rw [if_pos h0, if_pos (by rw [List.length_map]; exact h1)]
  show (ns.map V.int)[i.toNat]? = _
  rw [List.getElem?_map, List.getElem?_eq_getElem (by omega)]
  simp [List.getD, List.getElem?_eq_getElem (show i.toNat < ns.length by omega)]
abbrev s_rule_from : Stmt := topS 32
theorem sc_rule_from : FnScope ["numbers", "at"] ["numbers", "at"] (defScope s_rule_from) := ⟨rfl, rfl, rfl, by decide +kernel, rfl, by decide +kernel, by decide +kernel⟩
def sp_rule_from (K : PySem.W.Frag) (cr : Addr) : Sp := fun vs H Q _ => ∃ (a : Addr) (ns : List Int) (i : Nat), vs = [.ref a, .int i] ∧ SqL K H a (ns.map V.int) ∧ i + 5 ≤ ns.length ∧
  ∀ x H', Same H H' → H x = none → RulAt cr H' x (r5At ns i) → Q (.ref x) H'
theorem ok_rule_from (B : Blt K mg tbl) (T : Txd K mg "rule_from" s_rule_from) (M_Rule : Dc P w K mg base "Rule" C_Rule ["self", "month", "k", "weekday", "second", "offset"] 1 (sp_Rule C_Rule)) : Df P w K mg base "rule_from" ["numbers", "at"] 3 (sp_rule_from K C_Rule) := by
  obtain ⟨f, fd, F, hm⟩ := T.ex
  refine ⟨f, fd, F.ok sc_rule_from (fun vs H Q E h => ?_) (fun cdv A outer s H vs Q E hr h => ⟨_, (pss_one (ps_ret (pe_makeD M_Rule hr (by decide) (by rfl) (pa_cons (pe_ix ix_list (pv 0) (pv 1) (fun _ _ => rfl)) (pa_cons (pe_ix ix_list (pv 0) (pe_op op_add (pv 1) pe_int) (fun _ _ => rfl)) (pa_cons (pe_ix ix_list (pv 0) (pe_op op_add (pv 1) pe_int) (fun _ _ => rfl)) (pa_cons (pe_ix ix_list (pv 0) (pe_op op_add (pv 1) pe_int) (fun _ _ => rfl)) (pa_cons (pe_ix ix_list (pv 0) (pe_op op_add (pv 1) pe_int) (fun _ _ => rfl)) pa_nil)))))))), ?_⟩), hm, F.kp, F.binds fun _ _ _ _ _ _ us hl => match us, hl with | [_, _], _ => rfl⟩
  · obtain ⟨a, ns, i, rfl, _⟩ := h
    rfl
  · obtain ⟨a, ns, i, rfl, hs, hl, h⟩ := h
    have g : ∀ (z j : Int) (k : Nat), z = (i : Int) + k → k < 5 → atI (ns.map V.int) z = some (.int (ns.getD (i + k) 0)) := by
      intro z j k hz hk
      rw [at_nat (by omega) (by omega), show z.toNat = i + k by omega]
    refine ⟨_, rfl, _, rfl, a, _, _, _, rfl, rfl, hs, g _ 0 0 (by omega) (by omega), ?_⟩
    refine ⟨_, rfl, _, rfl, _, _, rfl, rfl, a, _, _, _, rfl, rfl, hs, g _ 0 1 (by omega) (by omega), ?_⟩
    refine ⟨_, rfl, _, rfl, _, _, rfl, rfl, a, _, _, _, rfl, rfl, hs, g _ 0 2 (by omega) (by omega), ?_⟩
    refine ⟨_, rfl, _, rfl, _, _, rfl, rfl, a, _, _, _, rfl, rfl, hs, g _ 0 3 (by omega) (by omega), ?_⟩
    refine ⟨_, rfl, _, rfl, _, _, rfl, rfl, a, _, _, _, rfl, rfl, hs, g _ 0 4 (by omega) (by omega), ?_⟩
    exact made ⟨r5At ns i, rfl, rfl⟩ fun x dx H' s n e => h x H' s n ⟨dx, e⟩
abbrev s_is_offset : Stmt := topS 33
theorem sc_is_offset : FnScope ["o"] ["o"] (defScope s_is_offset) := ⟨rfl, rfl, rfl, by decide +kernel, rfl, by decide +kernel, by decide +kernel⟩
def sp_is_offset : Sp := sp1 (fun _ => True) fun o => .bl (Tm.offsetOk o)
theorem ok_is_offset (B : Blt K mg tbl) (T : Txd K mg "is_offset" s_is_offset)  : Df P w K mg base "is_offset" ["o"] 1 (sp_is_offset) := by
  obtain ⟨f, fd, F, hm⟩ := T.ex
  refine ⟨f, fd, F.ok sc_is_offset (fun vs H Q E h => ?_) (fun cdv A outer s H vs Q E hr h => ⟨_, (pss_one (ps_ret (pe_chain op_lt op_lt (pe_un un_neg (pe_gc (by rfl) B.DAY_SECONDS)) (pv 0) (pe_gc (by rfl) B.DAY_SECONDS)))), ?_⟩), hm, F.kp, F.binds fun _ _ _ _ _ _ us hl => match us, hl with | [_], _ => rfl⟩
  · obtain ⟨y, rfl, _⟩ := h
    rfl
  · obtain ⟨o, rfl, _, h⟩ := h
    simp only [cxOf, tFld, HO.ins.injEq, tSeq, tLst, tTup, tNext, tBreak, tCont, tRet, tRetN, tDrop, tAsg, gName, tAug, ipI, tIfS, tIf, tTest, tChain, tB, tAnd, tOr, tNot, tAndV, tOrV, tNotV, tOp, tUn, rU, tVar, tC, rI, rI0, rEq, rNe, CDiv, CMul, tCall, tCB, tCons, tNil, sp1, sp2, sp3, sp4, L2.start, scal, List.map, List.length, List.replicate, List.append, List.cons_append, List.nil_append, List.append_nil, List.set_cons_zero, List.set_cons_succ, List.getElem?_cons_zero, List.getElem?_cons_succ, Option.some.injEq, V.int.injEq, V.bl.injEq, V.ref.injEq, List.cons.injEq, and_assoc, exists_and_left, exists_eq_left', exists_eq_left, and_true, true_and, decide_eq_true_eq, Bool.not_eq_true', decide_eq_false_iff_not, if_true, if_false, reduceCtorEq, decide_false, decide_true, Bool.false_eq_true, Bool.true_eq_false, Bool.not_true, Bool.not_false, ite_true, ite_false, Int.reduceLT, Int.reduceLE, Int.reduceNeg, Int.reducePow, or_true, true_or, not_true_eq_false, not_false_eq_true, exists_eq, exists_eq']
    replace h : Q (.bl (decide (-86399 ≤ o) && decide (o ≤ 86399))) H := h
    by_cases c1 : -86400 < o
    · rw [if_pos c1]
      rw [decide_eq_true (by omega), Bool.true_and, show decide (o ≤ 86399) = decide (o < 86400) from by rw [decide_eq_decide]; omega] at h
      exact h
    · rw [if_neg c1]
      rw [decide_eq_false (by omega), Bool.false_and] at h
      exact h
end
end Cc
set_option Elab.async false
set_option maxRecDepth 100000
set_option maxHeartbeats 2000000
set_option linter.unusedSimpArgs false
set_option linter.unusedVariables false
namespace Cc
open PySem PySem.Spec PyProof.Rows L2
section
variable {P : Program} {w : World} {K : PySem.W.Frag} {mg : Str → Option Value} {base : Heap} {tbl C_Change C_Rule C_Clock : Addr}
/-- an if whose test is known -/
theorem ifT {c : Bool} {A B : Prop} (hc : c = true) (h : A) : if c = true then A else B := by
  rw [if_pos hc]
  exact h
theorem ifF {c : Bool} {A B : Prop} (hc : c = false) (h : B) : if c = true then A else B := by
  rw [hc, if_neg Bool.false_ne_true]
  exact h
/-- an item of a list of objects, by its place -/
theorem at_ref {as : List Addr} {i : Int} {a : Addr} (h0 : 0 ≤ i) (h : as[i.toNat]? = some a) : atI (as.map V.ref) i = some (.ref a) := by
  have hl : i.toNat < as.length := by
    by_cases q : i.toNat < as.length
    · exact q
    · rw [List.getElem?_eq_none (by omega)] at h
      cases h
  unfold atI ixN
  rw [if_pos h0, if_pos (by rw [List.length_map]; omega)]
  show (as.map V.ref)[i.toNat]? = _
  rw [List.getElem?_map, h]
  rfl
theorem get_some {α : Type} {l : List α} {i : Nat} (h : i < l.length) : ∃ x, l[i]? = some x := ⟨l[i], List.getElem?_eq_getElem h⟩
abbrev s_are_changes : Stmt := topS 34
theorem sc_are_changes : FnScope ["changes", "at"] ["changes"] (defScope s_are_changes) := ⟨rfl, rfl, rfl, by decide +kernel, rfl, by decide +kernel, by decide +kernel⟩
def sp_are_changes (cc : Addr) : Sp := fun vs H Q _ => ∃ (l : Addr) (cs : List (Int × Int)), vs = [.ref l] ∧ LstAt (ChgAt cc H) H l cs ∧ cs.length ≤ 1000 ∧ Q (.bl (areChg cs)) H
theorem ok_are_changes (B : Blt K mg tbl) (Z : Clz K C_Change C_Rule C_Clock) (T : Txd K mg "are_changes" s_are_changes) (D_is_offset : Df P w K mg base "is_offset" ["o"] 1 (sp_is_offset)) : Df P w K mg base "are_changes" ["changes"] 2 (sp_are_changes C_Change) := by
  obtain ⟨f, fd, F, hm⟩ := T.ex
  refine ⟨f, fd, F.ok sc_are_changes (fun vs H Q E h => ?_) (fun cdv A outer s H vs Q E hr h => ⟨_, (pss_cons (ps_for PassesOwn.never rfl (pi_range1 (by rfl) B.b_range (pa_cons (pe_callB call_len_seq (by rfl) B.b_len (by decide +kernel) (pa_cons (pv 0) pa_nil)) pa_nil)) (pg_name (i := 1) sc_are_changes.nd rfl (Or.inl rfl))
     (pss_cons (ps_if (pt_not (pt_val (pe_callD D_is_offset hr (by decide) (by rfl) (pa_cons (pe_fld (pe_ix ix_list (pv 0) (pv 1) (fun _ _ => rfl)) rfl) pa_nil))))
       (pss_one (ps_ret pe_bl))
       pss_nil)
      (pss_one (ps_if (PW.pt (pw_and (pt_cmpR op_gt (pv 1) pe_int (nomark _)) (pw_and1 (pt_cmpR op_le (pe_fld (pe_ix ix_list (pv 0) (pv 1) (fun _ _ => rfl)) rfl) (pe_fld (pe_ix ix_list (pv 0) (pe_op op_sub (pv 1) pe_int) (fun _ _ => rfl)) rfl) (nomark _)))))
       (pss_one (ps_ret pe_bl))
       pss_nil))))
    (pss_one (ps_ret pe_bl))), ?_⟩), hm, F.kp, F.binds fun _ _ _ _ _ _ us hl => match us, hl with | [_], _ => rfl⟩
  · obtain ⟨l, cs, rfl, _⟩ := h
    rfl
  · obtain ⟨l, cs, rfl, ⟨as, hl, hlen, hat⟩, h1000, h⟩ := h
    have len : (as.map V.ref).length = cs.length := by rw [List.length_map, hlen]
    refine ⟨_, rfl, l, _, rfl, .inl (SqL.of hl), _, rfl, by omega, by omega, ?_⟩
    rw [len]
    refine for_range (lo := 0) (n := ((cs.length : Nat) : Int).toNat) (fun i σ H' => H' = H ∧ ∃ v, σ = [some (.ref l), v] ∧ ∀ (j : Nat) (x : Int × Int), j < i → cs[j]? = some x → Tm.offsetOk x.2 = true ∧ ∀ y, 0 < j → cs[j - 1]? = some y → y.1 < x.1) ⟨rfl, none, rfl, fun j x hj => by omega⟩ ?_ ?_
    · rintro i σ H' hi ⟨rfl, v, rfl, inv⟩
      have hi : i < cs.length := by omega
      obtain ⟨x, hx⟩ := get_some hi
      obtain ⟨a, ha⟩ := get_some (show i < as.length by omega)
      obtain ⟨dx, hd⟩ := hat i a x ha hx
      have ati : atI (as.map V.ref) (0 + (i : Int)) = some (.ref a) := at_ref (by omega) (by rw [show (0 + (i : Int)).toNat = i by omega]; exact ha)
      refine ⟨_, rfl, _, rfl, l, _, _, _, rfl, rfl, SqL.of hl, ati, a, _, dx, _, _, rfl, hd, Z.ch, Z.ch2, chF_offset x, x.2, rfl, trivial, ?_⟩
      refine ⟨_, rfl, ?_⟩
      cases ho : Tm.offsetOk x.2
      · refine ifT rfl ?_
        have e : areChg cs = false := ?_
        · rw [e] at h
          exact h
        rw [Bool.eq_false_iff]
        intro q
        have := (areChg_iff.mp q i x hx).1
        rw [ho] at this
        cases this
      · refine ifF rfl ?_
        refine ⟨_, rfl, _, _, rfl, rfl, _, rfl, ?_⟩
        by_cases c : 0 < (0 + (i : Int))
        · refine ifT (decide_eq_true c) ?_
          obtain ⟨y, hy⟩ := get_some (show i - 1 < cs.length by omega)
          obtain ⟨b, hb⟩ := get_some (show i - 1 < as.length by omega)
          obtain ⟨dy, he⟩ := hat (i - 1) b y hb hy
          have atj : atI (as.map V.ref) (0 + (i : Int) - 1) = some (.ref b) := at_ref (by omega) (by rw [show (0 + (i : Int) - 1).toNat = i - 1 by omega]; exact hb)
          refine ⟨_, rfl, _, rfl, l, _, _, _, rfl, rfl, SqL.of hl, ati, a, _, dx, _, _, rfl, hd, Z.ch, Z.ch1, chF_moment x, ?_⟩
          refine ⟨_, rfl, _, rfl, _, _, rfl, rfl, l, _, _, _, rfl, rfl, SqL.of hl, atj, b, _, dy, _, _, rfl, he, Z.ch, Z.ch1, chF_moment y, ?_⟩
          refine ⟨_, _, rfl, rfl, _, rfl, ?_⟩
          by_cases d : x.1 ≤ y.1
          · refine ifT (decide_eq_true d) ?_
            have e : areChg cs = false := ?_
            · rw [e] at h
              exact h
            rw [Bool.eq_false_iff]
            intro q
            have := (areChg_iff.mp q i x hx).2 y (by omega) hy
            omega
          · refine ifF (decide_eq_false d) ?_
            refine ⟨rfl, _, rfl, fun j z hj hz => ?_⟩
            by_cases e : j = i
            · subst e
              rw [hx] at hz
              cases hz
              refine ⟨ho, fun y' _ hy' => ?_⟩
              rw [hy] at hy'
              cases hy'
              omega
            · exact inv j z (by omega) hz
        · refine ifF (decide_eq_false c) ?_
          refine ⟨rfl, _, rfl, fun j z hj hz => ?_⟩
          have : j = i := by omega
          subst this
          rw [hx] at hz
          cases hz
          exact ⟨ho, fun y' hj0 _ => by omega⟩
    · rintro σ H' ⟨rfl, v, rfl, inv⟩
      have e : areChg cs = true := ?_
      · rw [e] at h
        exact h
      rw [areChg_iff]
      intro j x hx
      have : j < cs.length := by
        by_cases q : j < cs.length
        · exact q
        · rw [List.getElem?_eq_none (by omega)] at hx
          cases hx
      exact inv j x (by omega) hx
abbrev s_is_rule : Stmt := topS 36
theorem sc_is_rule : FnScope ["rule"] ["rule"] (defScope s_is_rule) := ⟨rfl, rfl, rfl, by decide +kernel, rfl, by decide +kernel, by decide +kernel⟩
def sp_is_rule (cr : Addr) : Sp := fun vs H Q _ => ∃ (a : Addr) (r : R5), vs = [.ref a] ∧ RulAt cr H a r ∧ Q (.bl r.ok) H
theorem ok_is_rule (B : Blt K mg tbl) (Z : Clz K C_Change C_Rule C_Clock) (T : Txd K mg "is_rule" s_is_rule) (D_is_offset : Df P w K mg base "is_offset" ["o"] 1 (sp_is_offset)) : Df P w K mg base "is_rule" ["rule"] 2 (sp_is_rule C_Rule) := by
  obtain ⟨f, fd, F, hm⟩ := T.ex
  refine ⟨f, fd, F.ok sc_is_rule (fun vs H Q E h => ?_) (fun cdv A outer s H vs Q E hr h => ⟨_, (pss_cons (ps_if (pt_not (PW.pt (pw_and (pt_chain op_le op_le pe_int (pe_fld (pv 0) rfl) pe_int) (pw_and (pt_chain op_le op_le pe_int (pe_fld (pv 0) rfl) pe_int) (pw_and1 (pt_chain op_le op_le pe_int (pe_fld (pv 0) rfl) pe_int))))))
     (pss_one (ps_ret pe_bl))
     pss_nil)
    (pss_one (ps_ret (pe_and (pe_chain op_le op_lt pe_int (pe_fld (pv 0) rfl) (pe_gc (by rfl) B.DAY_SECONDS)) (pe_one (pe_callD D_is_offset hr (by decide) (by rfl) (pa_cons (pe_fld (pv 0) rfl) pa_nil))))))), ?_⟩), hm, F.kp, F.binds fun _ _ _ _ _ _ us hl => match us, hl with | [_], _ => rfl⟩
  · obtain ⟨l, r, rfl, _⟩ := h
    rfl
  · obtain ⟨a, r, rfl, ⟨dx, hd⟩, h⟩ := h
    simp only [sp_is_offset, hd, Z.ru, Z.ru1, Z.ru2, Z.ru3, Z.ru4, Z.ru5, ruF_month, ruF_k, ruF_weekday, ruF_second, ruF_offset, cxOf, tFld, HO.ins.injEq, tSeq, tLst, tTup, tNext, tBreak, tCont, tRet, tRetN, tDrop, tAsg, gName, tAug, ipI, tIfS, tIf, tTest, tChain, tB, tAnd, tOr, tNot, tAndV, tOrV, tNotV, tOp, tUn, rU, tVar, tC, rI, rI0, rEq, rNe, CDiv, CMul, tCall, tCB, tCons, tNil, sp1, sp2, sp3, sp4, L2.start, scal, List.map, List.length, List.replicate, List.append, List.cons_append, List.nil_append, List.append_nil, List.set_cons_zero, List.set_cons_succ, List.getElem?_cons_zero, List.getElem?_cons_succ, Option.some.injEq, V.int.injEq, V.bl.injEq, V.ref.injEq, List.cons.injEq, and_assoc, exists_and_left, exists_eq_left', exists_eq_left, and_true, true_and, decide_eq_true_eq, Bool.not_eq_true', decide_eq_false_iff_not, if_true, if_false, reduceCtorEq, decide_false, decide_true, Bool.false_eq_true, Bool.true_eq_false, Bool.not_true, Bool.not_false, ite_true, ite_false, Int.reduceLT, Int.reduceLE, Int.reduceNeg, Int.reducePow, or_true, true_or, not_true_eq_false, not_false_eq_true, exists_eq, exists_eq']
    have key : ∀ b : Bool, r.ok = b → Q (.bl b) H := fun b e => e ▸ h
    unfold R5.ok at key
    split
    case isFalse => exact key _ (by rw [decide_eq_false (by omega), Bool.false_and])
    split
    case isFalse => exact key _ (by rw [decide_eq_false (by omega), Bool.false_and])
    split
    case isFalse => exact key _ (by rw [decide_eq_false (by omega), Bool.false_and])
    split
    case isFalse => exact key _ (by rw [decide_eq_false (by omega), Bool.false_and])
    split
    case isFalse => exact key _ (by rw [decide_eq_false (by omega), Bool.false_and])
    split
    case isTrue => exact key _ (by rw [decide_eq_false (by omega), Bool.false_and])
    split
    case isFalse => exact key _ (by rw [decide_eq_false (by omega : ¬ (0 ≤ r.s ∧ r.s < 86400)), Bool.false_and, Bool.and_false])
    split
    case isFalse => exact key _ (by rw [decide_eq_false (by omega : ¬ (0 ≤ r.s ∧ r.s < 86400)), Bool.false_and, Bool.and_false])
    exact key _ (by rw [decide_eq_true (by omega : 0 ≤ r.s ∧ r.s < 86400), decide_eq_true (by omega), Bool.true_and, Bool.true_and])
abbrev s_ever_meet : Stmt := topS 37
theorem sc_ever_meet : FnScope ["one", "other"] ["one", "other"] (defScope s_ever_meet) := ⟨rfl, rfl, rfl, by decide +kernel, rfl, by decide +kernel, by decide +kernel⟩
def sp_ever_meet (cr : Addr) : Sp := fun vs H Q _ => ∃ (a b : Addr) (r s : R5), vs = [.ref a, .ref b] ∧ RulAt cr H a r ∧ RulAt cr H b s ∧ Q (.bl (meetM r s)) H
theorem ok_ever_meet (B : Blt K mg tbl) (Z : Clz K C_Change C_Rule C_Clock) (T : Txd K mg "ever_meet" s_ever_meet)  : Df P w K mg base "ever_meet" ["one", "other"] 1 (sp_ever_meet C_Rule) := by
  obtain ⟨f, fd, F, hm⟩ := T.ex
  refine ⟨f, fd, F.ok sc_ever_meet (fun vs H Q E h => ?_) (fun cdv A outer s H vs Q E hr h => ⟨_, (pss_cons (ps_if (PW.pt (pw_or (pt_cmpR op_ne (pe_fld (pv 0) rfl) (pe_fld (pv 1) rfl) (nomark _)) (pw_or (pt_cmpR op_ne (pe_fld (pv 0) rfl) (pe_fld (pv 1) rfl) (nomark _)) (pw_or1 (pt_cmpR op_ne (pe_fld (pv 0) rfl) (pe_fld (pv 1) rfl) (nomark _))))))
     (pss_one (ps_ret pe_bl))
     pss_nil)
    (pss_one (ps_ret (pe_cmpR op_eq (pe_callB (call_min2 rfl) (by rfl) B.b_min (by decide +kernel) (pa_cons (pe_fld (pv 0) rfl) (pa_cons pe_int pa_nil))) (pe_callB (call_min2 rfl) (by rfl) B.b_min (by decide +kernel) (pa_cons (pe_fld (pv 1) rfl) (pa_cons pe_int pa_nil))) (nomark _))))), ?_⟩), hm, F.kp, F.binds fun _ _ _ _ _ _ us hl => match us, hl with | [_, _], _ => rfl⟩
  · obtain ⟨l, b, r, s, rfl, _⟩ := h
    rfl
  · obtain ⟨a, b, r, s, rfl, ⟨dx, hd⟩, ⟨dy, he⟩, h⟩ := h
    simp only [sp_is_offset, hd, he, Z.ru, Z.ru1, Z.ru2, Z.ru3, Z.ru4, Z.ru5, ruF_month, ruF_k, ruF_weekday, ruF_second, ruF_offset, cxOf, tFld, HO.ins.injEq, tSeq, tLst, tTup, tNext, tBreak, tCont, tRet, tRetN, tDrop, tAsg, gName, tAug, ipI, tIfS, tIf, tTest, tChain, tB, tAnd, tOr, tNot, tAndV, tOrV, tNotV, tOp, tUn, rU, tVar, tC, rI, rI0, rEq, rNe, CDiv, CMul, tCall, tCB, tCons, tNil, sp1, sp2, sp3, sp4, L2.start, scal, List.map, List.length, List.replicate, List.append, List.cons_append, List.nil_append, List.append_nil, List.set_cons_zero, List.set_cons_succ, List.getElem?_cons_zero, List.getElem?_cons_succ, Option.some.injEq, V.int.injEq, V.bl.injEq, V.ref.injEq, List.cons.injEq, and_assoc, exists_and_left, exists_eq_left', exists_eq_left, and_true, true_and, decide_eq_true_eq, Bool.not_eq_true', decide_eq_false_iff_not, if_true, if_false, reduceCtorEq, decide_false, decide_true, Bool.false_eq_true, Bool.true_eq_false, Bool.not_true, Bool.not_false, ite_true, ite_false, Int.reduceLT, Int.reduceLE, Int.reduceNeg, Int.reducePow, or_true, true_or, not_true_eq_false, not_false_eq_true, exists_eq, exists_eq']
    have key : ∀ b : Bool, meetM r s = b → Q (.bl b) H := fun b e => e ▸ h
    unfold meetM at key
    split
    case isTrue c => exact key _ (by rw [decide_eq_false (fun q => c q.1), Bool.false_and])
    split
    case isTrue c => exact key _ (by rw [decide_eq_false (fun q => c q.2.1), Bool.false_and])
    split
    case isTrue c => exact key _ (by rw [decide_eq_false (fun q => c q.2.2), Bool.false_and])
    next c1 c2 c3 => exact key _ (by rw [decide_eq_true ⟨Classical.not_not.mp c1, Classical.not_not.mp c2, Classical.not_not.mp c3⟩, Bool.true_and])
abbrev s_are_rules : Stmt := topS 35
theorem sc_are_rules : FnScope ["rules", "rule"] ["rules"] (defScope s_are_rules) := ⟨rfl, rfl, rfl, by decide +kernel, rfl, by decide +kernel, by decide +kernel⟩
def sp_are_rules (cr : Addr) : Sp := fun vs H Q _ => ∃ (l : Addr) (rs : List R5), vs = [.ref l] ∧ LstAt (RulAt cr H) H l rs ∧ (rs = [] ∨ ∃ r s, rs = [r, s]) ∧ Q (.bl (areRul rs)) H
theorem ok_are_rules (B : Blt K mg tbl) (Z : Clz K C_Change C_Rule C_Clock) (T : Txd K mg "are_rules" s_are_rules) (D_is_rule : Df P w K mg base "is_rule" ["rule"] 2 (sp_is_rule C_Rule)) (D_ever_meet : Df P w K mg base "ever_meet" ["one", "other"] 1 (sp_ever_meet C_Rule)) : Df P w K mg base "are_rules" ["rules"] 3 (sp_are_rules C_Rule) := by
  obtain ⟨f, fd, F, hm⟩ := T.ex
  refine ⟨f, fd, F.ok sc_are_rules (fun vs H Q E h => ?_) (fun cdv A outer s H vs Q E hr h => ⟨_, (pss_cons (ps_for PassesOwn.never rfl (pi_list (pv 0)) (pg_name (i := 1) sc_are_rules.nd rfl (Or.inl rfl))
     (pss_one (ps_if (pt_not (pt_val (pe_callD D_is_rule hr (by decide) (by rfl) (pa_cons (pv 1) pa_nil))))
       (pss_one (ps_ret pe_bl))
       pss_nil)))
    (pss_one (ps_ret (pe_or (pe_cmpR op_eq (pe_callB call_len_seq (by rfl) B.b_len (by decide +kernel) (pa_cons (pv 0) pa_nil)) pe_int (nomark _)) (pe_one (pe_not (pe_callD D_ever_meet hr (by decide) (by rfl) (pa_cons (pe_ix ix_list (pv 0) pe_int (fun _ _ => rfl)) (pa_cons (pe_ix ix_list (pv 0) pe_int (fun _ _ => rfl)) pa_nil))))))))), ?_⟩), hm, F.kp, F.binds fun _ _ _ _ _ _ us hl => match us, hl with | [_], _ => rfl⟩
  · obtain ⟨l, cs, rfl, _⟩ := h
    rfl
  · obtain ⟨l, rs, rfl, ⟨as, hl, hlen, hat⟩, two, h⟩ := h
    refine ⟨_, rfl, l, rfl, ⟨_, SqL.of hl⟩, for_list (K := K) (a := l) (xs := as.map V.ref) (fun i σ H' => H' = H ∧ ∃ v, σ = [some (.ref l), v] ∧ ∀ (j : Nat) (x : R5), j < i → rs[j]? = some x → x.ok = true) ⟨rfl, none, rfl, fun j x hj => by omega⟩ (fun i σ H' _ ⟨e, _⟩ => e ▸ SqL.of hl) ?_ ?_⟩
    · rintro i y σ H' hi ⟨rfl, v, rfl, inv⟩
      rw [List.getElem?_map] at hi
      have hi' : i < as.length := by
        by_cases q : i < as.length
        · exact q
        · rw [List.getElem?_eq_none (by omega)] at hi
          cases hi
      obtain ⟨a, ha⟩ := get_some hi'
      obtain ⟨x, hx⟩ := get_some (show i < rs.length by omega)
      rw [ha] at hi
      have e : V.ref a = y := Option.some.inj hi
      subst e
      refine ⟨_, rfl, a, x, rfl, hat i a x ha hx, _, rfl, ?_⟩
      cases ho : x.ok
      · refine ifT rfl ?_
        have e : areRul rs = false := by
          unfold areRul
          rw [List.all_eq_false.mpr ⟨x, List.mem_of_getElem? hx, by rw [ho]; decide⟩, Bool.false_and]
        rw [e] at h
        exact h
      · refine ifF rfl ?_
        refine ⟨rfl, _, rfl, fun j z hj hz => ?_⟩
        by_cases e : j = i
        · subst e
          rw [hx] at hz
          cases hz
          exact ho
        · exact inv j z (by omega) hz
    · rintro σ H' ⟨rfl, v, rfl, inv⟩
      have all : rs.all R5.ok = true := by
        rw [List.all_eq_true]
        intro x hx
        obtain ⟨j, hj⟩ := List.mem_iff_getElem?.mp hx
        have : j < rs.length := by
          by_cases q : j < rs.length
          · exact q
          · rw [List.getElem?_eq_none (by omega)] at hj
            cases hj
        exact inv j x (by rw [List.length_map]; omega) hj
      refine ⟨_, rfl, l, _, rfl, .inl (SqL.of hl), rfl, ?_⟩
      refine ⟨_, rfl, ?_⟩
      rw [List.length_map]
      rcases two with rfl | ⟨r, s, rfl⟩
      · refine ifT (decide_eq_true (by rw [hlen]; rfl)) ?_
        exact h
      · have h2 : as.length = 2 := hlen
        refine ifF (decide_eq_false (by rw [h2]; decide)) ?_
        obtain ⟨a, ha⟩ := get_some (show 0 < as.length by omega)
        obtain ⟨b, hb⟩ := get_some (show 1 < as.length by omega)
        refine ⟨_, rfl, l, _, _, _, rfl, rfl, SqL.of hl, at_ref (by decide) ha, ?_⟩
        refine ⟨_, rfl, l, _, _, _, rfl, rfl, SqL.of hl, at_ref (by decide) hb, ?_⟩
        refine ⟨a, b, r, s, rfl, hat 0 a r ha rfl, hat 1 b s hb rfl, _, rfl, ?_⟩
        have e : areRul [r, s] = !meetM r s := by
          show ([r, s].all R5.ok && !meetM r s) = _
          rw [all, Bool.true_and]
        rw [e] at h
        exact h
abbrev s_rule_moment : Stmt := topS 38
theorem sc_rule_moment : FnScope ["rule", "y"] ["rule", "y"] (defScope s_rule_moment) := ⟨rfl, rfl, rfl, by decide +kernel, rfl, by decide +kernel, by decide +kernel⟩
def sp_rule_moment (cr : Addr) : Sp := fun vs H Q _ => ∃ (a : Addr) (r : R5) (y : Int), vs = [.ref a, .int y] ∧ RulAt cr H a r ∧ 1 ≤ r.m ∧ r.m ≤ 12 ∧ Q (.int (r.at_ y)) H
theorem ok_rule_moment (B : Blt K mg tbl) (Z : Clz K C_Change C_Rule C_Clock) (T : Txd K mg "rule_moment" s_rule_moment) (D_nth_weekday : Df P w K mg base "nth_weekday" ["y", "m", "k", "w"] 4 (sp_nth_weekday)) : Df P w K mg base "rule_moment" ["rule", "y"] 5 (sp_rule_moment C_Rule) := by
  obtain ⟨f, fd, F, hm⟩ := T.ex
  refine ⟨f, fd, F.ok sc_rule_moment (fun vs H Q E h => ?_) (fun cdv A outer s H vs Q E hr h => ⟨_, (pss_one (ps_ret (pe_op op_add (pe_op op_mul (pe_callD D_nth_weekday hr (by decide) (by rfl) (pa_cons (pv 1) (pa_cons (pe_fld (pv 0) rfl) (pa_cons (pe_fld (pv 0) rfl) (pa_cons (pe_fld (pv 0) rfl) pa_nil))))) (pe_gc (by rfl) B.DAY_SECONDS)) (pe_fld (pv 0) rfl)))), ?_⟩), hm, F.kp, F.binds fun _ _ _ _ _ _ us hl => match us, hl with | [_, _], _ => rfl⟩
  · obtain ⟨a, r, y, rfl, _⟩ := h
    rfl
  · obtain ⟨a, r, y, rfl, ⟨dx, hd⟩, m1, m2, h⟩ := h
    simp only [sp_nth_weekday, hd, Z.ru, Z.ru1, Z.ru2, Z.ru3, Z.ru4, Z.ru5, ruF_month, ruF_k, ruF_weekday, ruF_second, ruF_offset, cxOf, tFld, HO.ins.injEq, tSeq, tLst, tTup, tNext, tBreak, tCont, tRet, tRetN, tDrop, tAsg, gName, tAug, ipI, tIfS, tIf, tTest, tChain, tB, tAnd, tOr, tNot, tAndV, tOrV, tNotV, tOp, tUn, rU, tVar, tC, rI, rI0, rEq, rNe, CDiv, CMul, tCall, tCB, tCons, tNil, sp1, sp2, sp3, sp4, L2.start, scal, List.map, List.length, List.replicate, List.append, List.cons_append, List.nil_append, List.append_nil, List.set_cons_zero, List.set_cons_succ, List.getElem?_cons_zero, List.getElem?_cons_succ, Option.some.injEq, V.int.injEq, V.bl.injEq, V.ref.injEq, List.cons.injEq, and_assoc, exists_and_left, exists_eq_left', exists_eq_left, and_true, true_and, decide_eq_true_eq, Bool.not_eq_true', decide_eq_false_iff_not, if_true, if_false, reduceCtorEq, decide_false, decide_true, Bool.false_eq_true, Bool.true_eq_false, Bool.not_true, Bool.not_false, ite_true, ite_false, Int.reduceLT, Int.reduceLE, Int.reduceNeg, Int.reducePow, or_true, true_or, not_true_eq_false, not_false_eq_true, exists_eq, exists_eq']
    exact ⟨m1, m2, h⟩
abbrev s_latest_moment : Stmt := topS 39
theorem sc_latest_moment : FnScope ["rule", "t", "y", "moment"] ["rule", "t"] (defScope s_latest_moment) := ⟨rfl, rfl, rfl, by decide +kernel, rfl, by decide +kernel, by decide +kernel⟩
def vO : Option Int → V
  | none => .non
  | some x => .int x
def sp_latest_moment (cr : Addr) : Sp := fun vs H Q _ => ∃ (a : Addr) (r : R5) (t : Int), vs = [.ref a, .int t] ∧ RulAt cr H a r ∧ 1 ≤ r.m ∧ r.m ≤ 12 ∧ Q (vO (latM r t)) H
theorem ok_latest_moment (B : Blt K mg tbl) (Z : Clz K C_Change C_Rule C_Clock) (T : Txd K mg "latest_moment" s_latest_moment) (D_year_of : Df P w K mg base "year_of" ["n"] 1 (sp_year_of)) (D_rule_moment : Df P w K mg base "rule_moment" ["rule", "y"] 5 (sp_rule_moment C_Rule)) : Df P w K mg base "latest_moment" ["rule", "t"] 6 (sp_latest_moment C_Rule) := by
  obtain ⟨f, fd, F, hm⟩ := T.ex
  refine ⟨f, fd, F.ok sc_latest_moment (fun vs H Q E h => ?_) (fun cdv A outer s H vs Q E hr h => ⟨_, (pss_cons (ps_set (i := 2) sc_latest_moment.nd rfl (Or.inl rfl) (pe_callD D_year_of hr (by decide) (by rfl) (pa_cons (pe_op op_fdiv (pv 1) (pe_gc (by rfl) B.DAY_SECONDS)) pa_nil)))
    (pss_cons (ps_set (i := 3) sc_latest_moment.nd rfl (Or.inl rfl) (pe_callD D_rule_moment hr (by decide) (by rfl) (pa_cons (pv 0) (pa_cons (pv 2) pa_nil))))
    (pss_cons (ps_if (pt_cmpR op_le (pv 3) (pv 1) (nomark _))
     (pss_one (ps_ret (pv 3)))
     pss_nil)
    (pss_cons (ps_if (pt_cmpR op_eq (pv 2) pe_int (nomark _))
     (pss_one (ps_ret pe_non))
     pss_nil)
    (pss_one (ps_ret (pe_callD D_rule_moment hr (by decide) (by rfl) (pa_cons (pv 0) (pa_cons (pe_op op_sub (pv 2) pe_int) pa_nil))))))))), ?_⟩), hm, F.kp, F.binds fun _ _ _ _ _ _ us hl => match us, hl with | [_, _], _ => rfl⟩
  · obtain ⟨a, r, y, rfl, _⟩ := h
    rfl
  · obtain ⟨a, r, t, rfl, hr', m1, m2, h⟩ := h
    simp only [sp_year_of, cxOf, tFld, HO.ins.injEq, tSeq, tLst, tTup, tNext, tBreak, tCont, tRet, tRetN, tDrop, tAsg, gName, tAug, ipI, tIfS, tIf, tTest, tChain, tB, tAnd, tOr, tNot, tAndV, tOrV, tNotV, tOp, tUn, rU, tVar, tC, rI, rI0, rEq, rNe, CDiv, CMul, tCall, tCB, tCons, tNil, sp1, sp2, sp3, sp4, L2.start, scal, List.map, List.length, List.replicate, List.append, List.cons_append, List.nil_append, List.append_nil, List.set_cons_zero, List.set_cons_succ, List.getElem?_cons_zero, List.getElem?_cons_succ, Option.some.injEq, V.int.injEq, V.bl.injEq, V.ref.injEq, List.cons.injEq, and_assoc, exists_and_left, exists_eq_left', exists_eq_left, and_true, true_and, decide_eq_true_eq, Bool.not_eq_true', decide_eq_false_iff_not, if_true, if_false, reduceCtorEq, decide_false, decide_true, Bool.false_eq_true, Bool.true_eq_false, Bool.not_true, Bool.not_false, ite_true, ite_false, Int.reduceLT, Int.reduceLE, Int.reduceNeg, Int.reducePow, or_true, true_or, not_true_eq_false, not_false_eq_true, exists_eq, exists_eq']
    refine ⟨a, r, _, rfl, hr', m1, m2, ?_⟩
    have key : ∀ v : Option Int, latM r t = v → Q (vO v) H := fun b e => e ▸ h
    unfold latM at key
    simp only at key
    simp only [cxOf, tFld, HO.ins.injEq, tSeq, tLst, tTup, tNext, tBreak, tCont, tRet, tRetN, tDrop, tAsg, gName, tAug, ipI, tIfS, tIf, tTest, tChain, tB, tAnd, tOr, tNot, tAndV, tOrV, tNotV, tOp, tUn, rU, tVar, tC, rI, rI0, rEq, rNe, CDiv, CMul, tCall, tCB, tCons, tNil, sp1, sp2, sp3, sp4, L2.start, scal, List.map, List.length, List.replicate, List.append, List.cons_append, List.nil_append, List.append_nil, List.set_cons_zero, List.set_cons_succ, List.getElem?_cons_zero, List.getElem?_cons_succ, Option.some.injEq, V.int.injEq, V.bl.injEq, V.ref.injEq, List.cons.injEq, and_assoc, exists_and_left, exists_eq_left', exists_eq_left, and_true, true_and, decide_eq_true_eq, Bool.not_eq_true', decide_eq_false_iff_not, if_true, if_false, reduceCtorEq, decide_false, decide_true, Bool.false_eq_true, Bool.true_eq_false, Bool.not_true, Bool.not_false, ite_true, ite_false, Int.reduceLT, Int.reduceLE, Int.reduceNeg, Int.reducePow, or_true, true_or, not_true_eq_false, not_false_eq_true, exists_eq, exists_eq']
    split
    · next c => exact key _ (if_pos c)
    · next c =>
      rw [if_neg c] at key
      split
      · next d => exact key _ (if_pos d)
      · next d => exact ⟨a, r, _, rfl, hr', m1, m2, key _ (if_neg d)⟩
end
end Cc
set_option Elab.async false
set_option maxRecDepth 100000
set_option maxHeartbeats 2000000
set_option linter.unusedSimpArgs false
set_option linter.unusedVariables false
namespace Cc
open PySem PySem.Spec PyProof.Rows L2
section
variable {P : Program} {w : World} {K : PySem.W.Frag} {mg : Str → Option Value} {base : Heap} {tbl C_Change C_Rule C_Clock : Addr}
theorem take_more {α : Type} : ∀ {l : List α} {i : Nat} {x : α}, l[i]? = some x → l.take (i + 1) = l.take i ++ [x]
  | [], i, x, h => by simp at h
  | a :: l, 0, x, h => by
    have e : a = x := Option.some.inj h
    subst e
    rfl
  | a :: l, i + 1, x, h => by
    have ih := take_more (l := l) (i := i) (x := x) h
    show a :: l.take (i + 1) = a :: l.take i ++ [x]
    rw [ih]
    rfl
theorem offL_more (f : Int) (l : List (Int × Int)) (x : Int × Int) : offL f (l ++ [x]) = x.2 := by
  unfold offL
  rw [List.getLast?_append]
  rfl
theorem lastL_more (l : List (Int × Int)) (x : Int × Int) : lastL (l ++ [x]) = some x.1 := by
  unfold lastL
  rw [List.getLast?_append]
  rfl
/-- an item of a list of objects, as the walk meets it -/
theorem item_ref {α : Type} {R : Addr → α → Prop} {as : List Addr} {xs : List α} {i : Nat} {y : V} (hlen : as.length = xs.length) (hat : ∀ (i : Nat) (a : Addr) (x : α), as[i]? = some a → xs[i]? = some x → R a x) (hi : (as.map V.ref)[i]? = some y) :
    ∃ a x, y = .ref a ∧ xs[i]? = some x ∧ R a x := by
  rw [List.getElem?_map] at hi
  have hi' : i < as.length := by
    by_cases q : i < as.length
    · exact q
    · rw [List.getElem?_eq_none (by omega)] at hi
      cases hi
  obtain ⟨a, ha⟩ := get_some hi'
  obtain ⟨x, hx⟩ := get_some (show i < xs.length by omega)
  rw [ha] at hi
  exact ⟨a, x, (Option.some.inj hi).symm, hx, hat i a x ha hx⟩
abbrev s_offset_at : Stmt := topS 40
theorem sc_offset_at : FnScope ["clock", "t", "offset", "last", "change", "rule", "moment"] ["clock", "t"] (defScope s_offset_at) := ⟨rfl, rfl, rfl, by decide +kernel, rfl, by decide +kernel, by decide +kernel⟩
def sp_offset_at (cc cr cl : Addr) : Sp := fun vs H Q _ => ∃ (a : Addr) (c : Ck) (t : Int), vs = [.ref a, .int t] ∧ ClkAt cc cr cl H a c ∧ c.Ok ∧ Tm.isMoment t = true ∧ Q (.int (Tm.offset c.to t)) H
theorem ok_offset_at (B : Blt K mg tbl) (Z : Clz K C_Change C_Rule C_Clock) (T : Txd K mg "offset_at" s_offset_at) (D_latest_moment : Df P w K mg base "latest_moment" ["rule", "t"] 6 (sp_latest_moment C_Rule)) : Df P w K mg base "offset_at" ["clock", "t"] 7 (sp_offset_at C_Change C_Rule C_Clock) := by
  obtain ⟨f, fd, F, hm⟩ := T.ex
  refine ⟨f, fd, F.ok sc_offset_at (fun vs H Q E h => ?_) (fun cdv A outer s H vs Q E hr h => ⟨_, (pss_cons (ps_set (i := 2) sc_offset_at.nd rfl (Or.inl rfl) (pe_fld (pv 0) rfl))
    (pss_cons (ps_set (i := 3) sc_offset_at.nd rfl (Or.inl rfl) pe_non)
    (pss_cons (ps_for PassesOwn.never rfl (pi_list (pe_fld (pv 0) rfl)) (pg_name (i := 4) sc_offset_at.nd rfl (Or.inl rfl))
     (pss_cons (ps_if (pt_cmpR op_gt (pe_fld (pv 4) rfl) (pv 1) (nomark _))
       (pss_one (ps_ret (pv 2)))
       pss_nil)
      (pss_cons (ps_set (i := 2) sc_offset_at.nd rfl (Or.inl rfl) (pe_fld (pv 4) rfl))
      (pss_one (ps_set (i := 3) sc_offset_at.nd rfl (Or.inl rfl) (pe_fld (pv 4) rfl))))))
    (pss_cons (ps_for PassesOwn.never rfl (pi_list (pe_fld (pv 0) rfl)) (pg_name (i := 5) sc_offset_at.nd rfl (Or.inl rfl))
     (pss_cons (ps_set (i := 6) sc_offset_at.nd rfl (Or.inl rfl) (pe_callD D_latest_moment hr (by decide) (by rfl) (pa_cons (pv 5) (pa_cons (pv 1) pa_nil))))
      (pss_one (ps_if (PW.pt (pw_and (pt_cmpR op_notN (pv 6) pe_non (nomark _)) (pw_and1 (PW.pt (pw_or (pt_cmpR op_isN (pv 3) pe_non (nomark _)) (pw_or1 (pt_cmpR op_gt (pv 6) (pv 3) (nomark _))))))))
       (pss_cons (ps_set (i := 2) sc_offset_at.nd rfl (Or.inl rfl) (pe_fld (pv 5) rfl))
        (pss_one (ps_set (i := 3) sc_offset_at.nd rfl (Or.inl rfl) (pv 6))))
       pss_nil))))
    (pss_one (ps_ret (pv 2))))))), ?_⟩), hm, F.kp, F.binds fun _ _ _ _ _ _ us hl => match us, hl with | [_, _], _ => rfl⟩
  · obtain ⟨a, r, y, rfl, _⟩ := h
    rfl
  · obtain ⟨a, c, t, rfl, ⟨dx, la, lr, hc, ⟨as, hl, hlen, hat⟩, ⟨bs, gl, glen, gat⟩⟩, ok, ht, h⟩ := h
    refine ⟨_, rfl, a, _, dx, _, _, rfl, hc, Z.ck, Z.ck1, ckF_first _ _ _, ?_⟩
    refine ⟨_, rfl, a, _, dx, _, _, rfl, hc, Z.ck, Z.ck2, ckF_changes _ _ _, la, rfl, ⟨_, SqL.of hl⟩, for_list (K := K) (a := la) (xs := as.map V.ref) (fun i σ H' => H' = H ∧ ∃ v, σ = [some (.ref a), some (.int t), some (.int (offL c.first (c.changes.take i))), some (vO (lastL (c.changes.take i))), v, none, none] ∧ ∀ y ∈ c.changes.take i, y.1 ≤ t) ⟨rfl, none, rfl, fun y hy => by cases hy⟩ (fun i σ H' _ ⟨e, _⟩ => e ▸ SqL.of hl) ?_ ?_⟩
    · rintro i y σ H' hi ⟨rfl, v, rfl, inv⟩
      obtain ⟨b, x, rfl, hx, db, hb⟩ := item_ref hlen hat hi
      simp only [hb, Z.ch, Z.ch1, Z.ch2, chF_moment, chF_offset, cxOf, tFld, HO.ins.injEq, tSeq, tLst, tTup, tNext, tBreak, tCont, tRet, tRetN, tDrop, tAsg, gName, tAug, ipI, tIfS, tIf, tTest, tChain, tB, tAnd, tOr, tNot, tAndV, tOrV, tNotV, tOp, tUn, rU, tVar, tC, rI, rI0, rEq, rNe, CDiv, CMul, tCall, tCB, tCons, tNil, sp1, sp2, sp3, sp4, L2.start, scal, List.map, List.length, List.replicate, List.append, List.cons_append, List.nil_append, List.append_nil, List.set_cons_zero, List.set_cons_succ, List.getElem?_cons_zero, List.getElem?_cons_succ, Option.some.injEq, V.int.injEq, V.bl.injEq, V.ref.injEq, List.cons.injEq, and_assoc, exists_and_left, exists_eq_left', exists_eq_left, and_true, true_and, decide_eq_true_eq, Bool.not_eq_true', decide_eq_false_iff_not, if_true, if_false, reduceCtorEq, decide_false, decide_true, Bool.false_eq_true, Bool.true_eq_false, Bool.not_true, Bool.not_false, ite_true, ite_false, Int.reduceLT, Int.reduceLE, Int.reduceNeg, Int.reducePow, or_true, true_or, not_true_eq_false, not_false_eq_true, exists_eq, exists_eq']
      split
      · next q =>
        rw [offset_early ok hx q inv] at h
        exact h
      · next q =>
        rw [take_more hx, offL_more, lastL_more]
        refine ⟨rfl, rfl, fun y hy => ?_⟩
        rw [List.mem_append, List.mem_singleton] at hy
        rcases hy with hy | rfl
        · exact inv y hy
        · omega
    · rintro σ H' ⟨rfl, v, rfl, inv⟩
      rw [List.length_map, hlen, List.take_length] at inv ⊢
      have key := offset_rules ok ht inv
      refine ⟨_, rfl, a, _, dx, _, _, rfl, hc, Z.ck, Z.ck3, ckF_rules _ _ _, lr, rfl, ⟨_, SqL.of gl⟩, for_list (K := K) (a := lr) (xs := bs.map V.ref) (fun i σ H1 => H1 = H' ∧ ∃ v w z, σ = [some (.ref a), some (.int t), some (.int ((c.rules.take i).foldl (rStep t) (offL c.first c.changes, lastL c.changes)).1), some (vO ((c.rules.take i).foldl (rStep t) (offL c.first c.changes, lastL c.changes)).2), v, w, z]) ⟨rfl, v, none, none, rfl⟩ (fun i σ H' _ ⟨e, _⟩ => e ▸ SqL.of gl) ?_ ?_⟩
      · rintro i y σ H1 hi ⟨rfl, v, w', z, rfl⟩
        obtain ⟨b, r, rfl, hx, hb⟩ := item_ref glen gat hi
        have rok : r.Ok := by
          rcases ok.two with e | ⟨p, q, e, hp, hq, _⟩
          · rw [e] at hx
            cases hx
          · rw [e] at hx
            have := List.mem_of_getElem? hx
            simp at this
            rcases this with rfl | rfl
            · exact hp
            · exact hq
        have st := congrArg (List.foldl (rStep t) (offL c.first c.changes, lastL c.changes)) (take_more hx)
        rw [List.foldl_append, List.foldl_cons, List.foldl_nil] at st
        simp only [st]
        generalize (List.foldl (rStep t) (offL c.first c.changes, lastL c.changes) (c.rules.take i)) = s0 at *
        obtain ⟨o0, l0⟩ := s0
        refine ⟨_, rfl, _, rfl, b, r, t, rfl, hb, rok.m1, rok.m2, ?_⟩
        obtain ⟨db, hb⟩ := hb
        unfold rStep
        cases hm : latM r t with
        | none =>
          simp only [vO, hb, Z.ru, Z.ru5, ruF_offset, cxOf, tFld, HO.ins.injEq, tSeq, tLst, tTup, tNext, tBreak, tCont, tRet, tRetN, tDrop, tAsg, gName, tAug, ipI, tIfS, tIf, tTest, tChain, tB, tAnd, tOr, tNot, tAndV, tOrV, tNotV, tOp, tUn, rU, tVar, tC, rI, rI0, rEq, rNe, CDiv, CMul, tCall, tCB, tCons, tNil, sp1, sp2, sp3, sp4, L2.start, scal, List.map, List.length, List.replicate, List.append, List.cons_append, List.nil_append, List.append_nil, List.set_cons_zero, List.set_cons_succ, List.getElem?_cons_zero, List.getElem?_cons_succ, Option.some.injEq, V.int.injEq, V.bl.injEq, V.ref.injEq, List.cons.injEq, and_assoc, exists_and_left, exists_eq_left', exists_eq_left, and_true, true_and, decide_eq_true_eq, Bool.not_eq_true', decide_eq_false_iff_not, if_true, if_false, reduceCtorEq, decide_false, decide_true, Bool.false_eq_true, Bool.true_eq_false, Bool.not_true, Bool.not_false, ite_true, ite_false, Int.reduceLT, Int.reduceLE, Int.reduceNeg, Int.reducePow, or_true, true_or, not_true_eq_false, not_false_eq_true, exists_eq, exists_eq']
        | some x =>
          cases l0 with
          | none =>
            simp only [vO, hb, Z.ru, Z.ru5, ruF_offset, cnt, cxOf, tFld, HO.ins.injEq, tSeq, tLst, tTup, tNext, tBreak, tCont, tRet, tRetN, tDrop, tAsg, gName, tAug, ipI, tIfS, tIf, tTest, tChain, tB, tAnd, tOr, tNot, tAndV, tOrV, tNotV, tOp, tUn, rU, tVar, tC, rI, rI0, rEq, rNe, CDiv, CMul, tCall, tCB, tCons, tNil, sp1, sp2, sp3, sp4, L2.start, scal, List.map, List.length, List.replicate, List.append, List.cons_append, List.nil_append, List.append_nil, List.set_cons_zero, List.set_cons_succ, List.getElem?_cons_zero, List.getElem?_cons_succ, Option.some.injEq, V.int.injEq, V.bl.injEq, V.ref.injEq, List.cons.injEq, and_assoc, exists_and_left, exists_eq_left', exists_eq_left, and_true, true_and, decide_eq_true_eq, Bool.not_eq_true', decide_eq_false_iff_not, if_true, if_false, reduceCtorEq, decide_false, decide_true, Bool.false_eq_true, Bool.true_eq_false, Bool.not_true, Bool.not_false, ite_true, ite_false, Int.reduceLT, Int.reduceLE, Int.reduceNeg, Int.reducePow, or_true, true_or, not_true_eq_false, not_false_eq_true, exists_eq, exists_eq']
          | some u =>
            simp only [vO, hb, Z.ru, Z.ru5, ruF_offset, cnt, cxOf, tFld, HO.ins.injEq, tSeq, tLst, tTup, tNext, tBreak, tCont, tRet, tRetN, tDrop, tAsg, gName, tAug, ipI, tIfS, tIf, tTest, tChain, tB, tAnd, tOr, tNot, tAndV, tOrV, tNotV, tOp, tUn, rU, tVar, tC, rI, rI0, rEq, rNe, CDiv, CMul, tCall, tCB, tCons, tNil, sp1, sp2, sp3, sp4, L2.start, scal, List.map, List.length, List.replicate, List.append, List.cons_append, List.nil_append, List.append_nil, List.set_cons_zero, List.set_cons_succ, List.getElem?_cons_zero, List.getElem?_cons_succ, Option.some.injEq, V.int.injEq, V.bl.injEq, V.ref.injEq, List.cons.injEq, and_assoc, exists_and_left, exists_eq_left', exists_eq_left, and_true, true_and, decide_eq_true_eq, Bool.not_eq_true', decide_eq_false_iff_not, if_true, if_false, reduceCtorEq, decide_false, decide_true, Bool.false_eq_true, Bool.true_eq_false, Bool.not_true, Bool.not_false, ite_true, ite_false, Int.reduceLT, Int.reduceLE, Int.reduceNeg, Int.reducePow, or_true, true_or, not_true_eq_false, not_false_eq_true, exists_eq, exists_eq']
            by_cases q : u < x <;> simp [q]
      · rintro σ H1 ⟨rfl, v, w', z, rfl⟩
        rw [List.length_map, glen, List.take_length] at *
        rw [key] at h
        exact ⟨_, rfl, h⟩
end
end Cc
set_option Elab.async false
set_option maxRecDepth 100000
set_option maxHeartbeats 2000000
set_option linter.unusedSimpArgs false
set_option linter.unusedVariables false
namespace Cc
open PySem PySem.Spec PyProof.Rows L2
section
variable {P : Program} {w : World} {K : PySem.W.Frag} {mg : Str → Option Value} {base : Heap} {tbl C_Change C_Rule C_Clock : Addr}
theorem Same.put {H H' : Hp} {D : Addr} {o : HO} (s : Same H H') (h : H D = none) : Same H (upd H' D o) := fun b q e => by
  rw [upd_ne (fun z => by rw [z, h] at e; cases e)]
  exact s b q e
theorem small_len {n : Nat} (h : n ≤ 5000) : n < sizeLine := Nat.lt_of_le_of_lt h (by decide)
theorem small_le {n : Nat} (h : n ≤ 5000) : n ≤ sizeLine := Nat.le_of_lt (small_len h)
/-- what hands back a new list of whole numbers and leaves all else -/
def giveL (H : Hp) (Q : VK) (l : List Int) : Prop := ∀ (p : Addr) (H' : Hp), Same H H' → H p = none → H' p = some (.lst (l.map V.int)) → Q (.ref p) H'
abbrev s_offsets_of : Stmt := topS 41
theorem sc_offsets_of : FnScope ["clock", "changed", "ruled", "change", "rule"] ["clock"] (defScope s_offsets_of) := ⟨rfl, rfl, rfl, by decide +kernel, rfl, by decide +kernel, by decide +kernel⟩
def sp_offsets_of (cc cr cl : Addr) : Sp := fun vs H Q _ => ∃ (a : Addr) (c : Ck), vs = [.ref a] ∧ ClkAt cc cr cl H a c ∧ c.changes.length ≤ 1000 ∧ c.rules.length ≤ 1000 ∧ giveL H Q c.offs
theorem ok_offsets_of (B : Blt K mg tbl) (Z : Clz K C_Change C_Rule C_Clock) (T : Txd K mg "offsets_of" s_offsets_of)  : Df P w K mg base "offsets_of" ["clock"] 1 (sp_offsets_of C_Change C_Rule C_Clock) := by
  obtain ⟨f, fd, F, hm⟩ := T.ex
  refine ⟨f, fd, F.ok sc_offsets_of (fun vs H Q E h => ?_) (fun cdv A outer s H vs Q E hr h => ⟨_, (pss_cons (ps_setLc (i := 1) (own := [("change", 3)]) (g := gName 3) (tt := tYes) (te := (tFld K (tVar 3) "offset")) rfl sc_offsets_of.nd rfl rfl (sw_true rfl rfl rfl (by decide +kernel)) (pi_list (pe_fld (pv 0) rfl)) (blkOk_by (own := [("change", 3)]) (N := ["clock", "changed", "ruled", "change", "rule"]) (sc := defScope s_offsets_of) (by decide +kernel)) (fun _ _ _ _ _ => pg_name (i := 3) sc_offsets_of.nd rfl (Or.inl rfl)) (fun _ _ _ _ _ => pts_nil) (fun _ _ _ _ _ => (pe_fld (pv 3) rfl)))
    (pss_cons (ps_setLc (i := 2) (own := [("rule", 4)]) (g := gName 4) (tt := tYes) (te := (tFld K (tVar 4) "offset")) rfl sc_offsets_of.nd rfl rfl (sw_true rfl rfl rfl (by decide +kernel)) (pi_list (pe_fld (pv 0) rfl)) (blkOk_by (own := [("rule", 4)]) (N := ["clock", "changed", "ruled", "change", "rule"]) (sc := defScope s_offsets_of) (by decide +kernel)) (fun _ _ _ _ _ => pg_name (i := 4) sc_offsets_of.nd rfl (Or.inl rfl)) (fun _ _ _ _ _ => pts_nil) (fun _ _ _ _ _ => (pe_fld (pv 4) rfl)))
    (pss_one (ps_ret (pe_op op_cat (pe_op op_cat (pe_lst (pa_cons (pe_fld (pv 0) rfl) pa_nil)) (pv 1)) (pv 2)))))), ?_⟩), hm, F.kp, F.binds fun _ _ _ _ _ _ us hl => match us, hl with | [_], _ => rfl⟩
  · obtain ⟨a, r, rfl, _⟩ := h
    rfl
  · obtain ⟨a, c, rfl, ⟨dx, la, lr, hc, ⟨as, hl, hlen, hat⟩, ⟨bs, gl, glen, gat⟩⟩, l1, l2, h⟩ := h
    refine ⟨_, rfl, a, _, dx, _, _, rfl, hc, Z.ck, Z.ck2, ckF_changes _ _ _, la, rfl, ⟨_, SqL.of hl⟩, fun D hD => lc_list (K := K) (a := la) (xs := as.map V.ref) (fun i H' => Same H H' ∧ H' D = some (.lst (((c.changes.take i).map fun (x : Int × Int) => x.2).map V.int))) ⟨Same.new hD, upd_same⟩ (fun i H' _ ⟨s, _⟩ => SqL.of (s _ _ hl)) ?_ ?_⟩
    · rintro i y H' hi ⟨s, hd⟩
      obtain ⟨b, x, rfl, hx, db, hb⟩ := item_ref hlen hat hi
      refine ⟨rfl, ?_⟩
      simp only [tYes, if_true]
      refine ⟨_, rfl, b, _, db, _, _, rfl, s _ _ hb, Z.ch, Z.ch2, chF_offset x, _, hd, ?_, Same.put s hD, ?_⟩
      · rw [List.length_map, List.length_map, List.length_take]
        exact small_len (by omega)
      · rw [take_more hx, List.map_append, List.map_append]
        exact upd_same
    · rintro H1 ⟨s1, hd1⟩
      rw [List.length_map, hlen, List.take_length] at hd1
      refine ⟨_, rfl, a, _, dx, _, _, rfl, s1 _ _ hc, Z.ck, Z.ck3, ckF_rules _ _ _, lr, rfl, ⟨_, SqL.of (s1 _ _ gl)⟩, fun D2 hD2 => lc_list (K := K) (a := lr) (xs := bs.map V.ref) (fun i H' => Same H1 H' ∧ H' D2 = some (.lst (((c.rules.take i).map fun (x : R5) => x.o).map V.int))) ⟨Same.new hD2, upd_same⟩ (fun i H' _ ⟨s, _⟩ => SqL.of (s _ _ (s1 _ _ gl))) ?_ ?_⟩
      · rintro i y H' hi ⟨s, hd⟩
        obtain ⟨b, x, rfl, hx, db, hb⟩ := item_ref glen gat hi
        refine ⟨rfl, ?_⟩
        simp only [tYes, if_true]
        refine ⟨_, rfl, b, _, db, _, _, rfl, s _ _ (s1 _ _ hb), Z.ru, Z.ru5, ruF_offset x, _, hd, ?_, Same.put s hD2, ?_⟩
        · rw [List.length_map, List.length_map, List.length_take]
          exact small_len (by omega)
        · rw [take_more hx, List.map_append, List.map_append]
          exact upd_same
      · rintro H2 ⟨s2, hd2⟩
        rw [List.length_map, glen, List.take_length] at hd2
        have hd1' := s2 _ _ hd1
        refine ⟨_, rfl, a, _, dx, _, _, rfl, s2 _ _ (s1 _ _ hc), Z.ck, Z.ck1, ckF_first _ _ _, small_le (by show 1 ≤ 5000; decide), fun p hp => ?_⟩
        have s3 : Same H2 (upd H2 p (.lst [.int c.first])) := Same.new hp
        refine ⟨_, rfl, p, D, _, _, rfl, rfl, upd_same, s3 _ _ hd1', ?_, fun q hq => ?_⟩
        · rw [List.length_map, List.length_map]
          exact small_le (by show 1 + _ ≤ 5000; omega)
        have s4 := Same.new (o := .lst ([V.int c.first] ++ (c.changes.map fun (x : Int × Int) => x.2).map V.int)) hq
        refine ⟨_, rfl, q, D2, _, _, rfl, rfl, upd_same, s4 _ _ (s3 _ _ hd2), ?_, fun r hr => ?_⟩
        · simp only [List.length_append, List.length_map, List.length_cons, List.length_nil]
          exact small_le (by omega)
        refine h r _ (s1.trans (s2.trans (s3.trans (s4.trans (Same.new hr))))) (s1.free (s2.free (s3.free (s4.free hr)))) ?_
        rw [upd_same]
        unfold Ck.offs
        simp
end
end Cc
set_option Elab.async false
set_option maxRecDepth 100000
set_option maxHeartbeats 2000000
set_option linter.unusedSimpArgs false
set_option linter.unusedVariables false
namespace Cc
open PySem PySem.Spec PyProof.Rows L2
section
variable {P : Program} {w : World} {K : PySem.W.Frag} {mg : Str → Option Value} {base : Heap} {tbl C_Change C_Rule C_Clock : Addr}
theorem inV_ints (t : Int) (l : List Int) : inV (.int t) (l.map V.int) = decide (t ∈ l) := by
  unfold inV
  rw [List.any_map]
  cases h : l.any ((fun y => eqV y (.int t)) ∘ V.int) with
  | true =>
    obtain ⟨x, hx, e⟩ := List.any_eq_true.mp h
    have e : (x == t) = true := e
    rw [beq_iff_eq] at e
    subst e
    exact (decide_eq_true hx).symm
  | false =>
    refine (decide_eq_false fun q => ?_).symm
    have := List.any_eq_false.mp h t q
    exact this (beq_self_eq_true t)
theorem flat_ints (l : List Int) : (l.map V.int).all flatV = true := by
  rw [List.all_map]
  exact List.all_eq_true.mpr fun _ _ => rfl
theorem wh_len (c : Ck) (u : Int) : ∀ (l f : List Int), (l.foldl (whStep c u) f).length ≤ f.length + l.length
  | [], f => Nat.le_refl _
  | o :: l, f => by
    rw [List.foldl_cons]
    have := wh_len c u l (whStep c u f o)
    have h : (whStep c u f o).length ≤ f.length + 1 := by
      unfold whStep
      split
      · simp
      · omega
    rw [List.length_cons]
    omega
theorem Ck.Ok.offs {c : Ck} (ok : c.Ok) : c.offs.length ≤ 100 ∧ c.rules.length ≤ 2 := by
  have := ok.len
  have h2 : c.rules.length ≤ 2 := by
    rcases ok.two with e | ⟨a, b, e, _⟩
    · rw [e]; exact Nat.zero_le _
    · rw [e]; exact Nat.le_refl _
  unfold Ck.offs
  simp only [List.length_append, List.length_cons, List.length_map]
  omega
abbrev s_moments_of : Stmt := topS 42
theorem sc_moments_of : FnScope ["clock", "shown", "found", "offset", "t"] ["clock", "shown"] (defScope s_moments_of) := ⟨rfl, rfl, rfl, by decide +kernel, rfl, by decide +kernel, by decide +kernel⟩
def sp_moments_of (cc cr cl : Addr) : Sp := fun vs H Q _ => ∃ (a : Addr) (c : Ck) (r : Tm.Read), vs = [.ref a, .int (Tm.flat r)] ∧ ClkAt cc cr cl H a c ∧ c.Ok ∧ giveL H Q (Tm.whens c.to r)
theorem ok_moments_of (B : Blt K mg tbl) (Z : Clz K C_Change C_Rule C_Clock) (T : Txd K mg "moments_of" s_moments_of) (D_offsets_of : Df P w K mg base "offsets_of" ["clock"] 1 (sp_offsets_of C_Change C_Rule C_Clock)) (D_is_moment : Df P w K mg base "is_moment" ["t"] 2 (sp_is_moment)) (D_offset_at : Df P w K mg base "offset_at" ["clock", "t"] 7 (sp_offset_at C_Change C_Rule C_Clock)) : Df P w K mg base "moments_of" ["clock", "shown"] 8 (sp_moments_of C_Change C_Rule C_Clock) := by
  obtain ⟨f, fd, F, hm⟩ := T.ex
  refine ⟨f, fd, F.ok sc_moments_of (fun vs H Q E h => ?_) (fun cdv A outer s H vs Q E hr h => ⟨_, (pss_cons (ps_set (i := 2) sc_moments_of.nd rfl (Or.inl rfl) (pe_lst pa_nil))
    (pss_cons (ps_for PassesOwn.never rfl (pi_list (pe_callD D_offsets_of hr (by decide) (by rfl) (pa_cons (pv 0) pa_nil))) (pg_name (i := 3) sc_moments_of.nd rfl (Or.inl rfl))
     (pss_cons (ps_set (i := 4) sc_moments_of.nd rfl (Or.inl rfl) (pe_op op_sub (pv 1) (pv 3)))
      (pss_one (ps_if (PW.pt (pw_and (pt_cmpR op_notIn_seq (pv 4) (pv 2) (by rfl)) (pw_and (pt_val (pe_callD D_is_moment hr (by decide) (by rfl) (pa_cons (pv 4) pa_nil))) (pw_and1 (pt_cmpR op_eq (pe_callD D_offset_at hr (by decide) (by rfl) (pa_cons (pv 0) (pa_cons (pv 4) pa_nil))) (pv 3) (nomark _))))))
       (pss_one (ps_expr (pe_bm PySem.F.plainAttrs_list PySem.F.slot_list_append PySem.F.type_list_append mt_append (pv 2) (pa_cons (pv 4) pa_nil))))
       pss_nil))))
    (pss_one (ps_ret (pe_callB cr_sortedI (by rfl) B.b_sorted (by decide +kernel) (pa_cons (pv 2) pa_nil)))))), ?_⟩), hm, F.kp, F.binds fun _ _ _ _ _ _ us hl => match us, hl with | [_, _], _ => rfl⟩
  · obtain ⟨a, c, r, rfl, _⟩ := h
    rfl
  · obtain ⟨a, c, r, rfl, hc, ok, h⟩ := h
    generalize hu : Tm.flat r = u at *
    have ol := ok.offs
    refine ⟨small_le (by show 0 ≤ 5000; decide), fun F hF => ?_⟩
    have s0 : Same H (upd H F (.lst [])) := Same.new hF
    refine ⟨_, rfl, a, c, rfl, hc.same s0, by have := ok.len; omega, by omega, fun p H1 s1 np hp => ?_⟩
    have nF : p ≠ F := fun z => by rw [z, upd_same] at np; cases np
    have hF1 : H1 F = some (.lst []) := s1 _ _ upd_same
    have hc1 := (hc.same s0).same s1
    refine ⟨p, rfl, ⟨_, SqL.of hp⟩, for_list (K := K) (a := p) (xs := c.offs.map V.int) (fun i σ H' => (∃ v v', σ = [some (.ref a), some (.int u), some (.ref F), v, v']) ∧ Same H H' ∧ H' p = some (.lst (c.offs.map V.int)) ∧ H' F = some (.lst (((c.offs.take i).foldl (whStep c u) []).map V.int)))
      ⟨⟨none, none, rfl⟩, s0.trans s1, hp, hF1⟩ (fun i σ H' _ ⟨_, _, e, _⟩ => SqL.of e) ?_ ?_⟩
    · rintro i y σ H' hi ⟨⟨v, v', rfl⟩, s2, hp2, hF2⟩
      rw [List.getElem?_map] at hi
      obtain ⟨o, ho⟩ : ∃ o, c.offs[i]? = some o := by
        cases e : c.offs[i]? with
        | none => rw [e] at hi; cases hi
        | some o => exact ⟨o, rfl⟩
      rw [ho] at hi
      have e : V.int o = y := Option.some.inj hi
      subst e
      have st := congrArg (List.foldl (whStep c u) []) (take_more ho)
      rw [List.foldl_append, List.foldl_cons, List.foldl_nil] at st
      have ln := wh_len c u (c.offs.take i) []
      simp only [st]
      generalize (List.foldl (whStep c u) [] (c.offs.take i)) = f0 at *
      have l0 : f0.length ≤ 100 := by
        rw [List.length_take, List.length_nil] at ln
        omega
      refine ⟨_, rfl, _, rfl, _, _, rfl, rfl, ?_⟩
      refine ⟨_, rfl, _, rfl, F, _, rfl, .inl (SqL.of hF2), rfl, flat_ints _, _, rfl, ?_⟩
      rw [inV_ints]
      unfold whStep
      by_cases c1 : (u - o) ∈ f0
      · rw [if_neg (fun q => q.1 c1)]
        refine ifF (by simp [c1]) ?_
        exact ⟨⟨_, _, rfl⟩, s2, hp2, hF2⟩
      · refine ifT (by simp [c1]) ?_
        refine ⟨_, rfl, _, rfl, trivial, _, rfl, ?_⟩
        cases c2 : Tm.isMoment (u - o)
        · have z : ¬ (¬ (u - o) ∈ f0 ∧ false = true ∧ Tm.offset c.to (u - o) = o) := fun q => absurd q.2.1 (by decide)
          rw [if_neg z]
          refine iteF ?_
          exact ⟨⟨_, _, rfl⟩, s2, hp2, hF2⟩
        · refine iteT ?_
          refine ⟨_, rfl, _, rfl, a, c, _, rfl, hc.same s2, ok, c2, ?_⟩
          refine ⟨_, rfl, rfl, _, rfl, ?_⟩
          by_cases c3 : Tm.offset c.to (u - o) = o
          · rw [if_pos ⟨c1, rfl, c3⟩]
            refine ifT (by simp [c3]) ?_
            refine ⟨_, rfl, .inl ⟨rfl, _, SqL.of hF2⟩, _, rfl, F, _, _, rfl, rfl, hF2, by rw [List.length_map]; exact small_len (by omega), ⟨_, _, rfl⟩, Same.put s2 hF, ?_, ?_⟩
            · rw [upd_ne nF]
              exact hp2
            · rw [upd_same, List.map_append]
              rfl
          · rw [if_neg (fun q => c3 q.2.2)]
            refine ifF (by simp [c3]) ?_
            exact ⟨⟨_, _, rfl⟩, s2, hp2, hF2⟩
    · rintro σ H' ⟨⟨v, v', rfl⟩, s2, hp2, hF2⟩
      rw [List.length_map, List.take_length] at hF2
      refine ⟨_, rfl, F, _, rfl, SqL.of hF2, fun ns' q perm rise nq => ?_⟩
      have e := whens_eq hu perm rise
      refine h q _ (s2.trans (Same.new nq)) (s2.free nq) ?_
      rw [upd_same, e]
end
end Cc
set_option Elab.async false
set_option maxRecDepth 100000
set_option maxHeartbeats 2000000
set_option linter.unusedSimpArgs false
set_option linter.unusedVariables false
namespace Cc
open PySem PySem.Spec PyProof.Rows L2
section
variable {P : Program} {w : World} {K : PySem.W.Frag} {mg : Str → Option Value} {base : Heap} {tbl C_Change C_Rule C_Clock : Addr}
theorem fits {z : Int} (h0 : -1000000 ≤ z) (h1 : z ≤ 1000000) : Builtin.Range.rangeFitsLong z = true := by
  unfold Builtin.Range.rangeFitsLong
  simp only [Bool.and_eq_true, decide_eq_true_eq]
  omega
theorem rgcs {a b c : Int} {n : Nat} (hc : 0 < c) (hc' : c ≤ 1000) (a0 : 0 ≤ a) (a1 : a ≤ 100000) (b0 : 0 ≤ b) (b1 : b ≤ 100000) (n1 : n ≤ 100000) (e : Builtin.Range.rangeSize a b c = n) : RgC a b c n := by
  refine ⟨by omega, by omega, ?_, e⟩
  unfold Builtin.Range.small
  simp only [e, fits (show -1000000 ≤ a by omega) (by omega), fits (show -1000000 ≤ b by omega) (by omega), fits (show -1000000 ≤ c by omega) (by omega), fits (show -1000000 ≤ (n : Int) by omega) (by omega), gt_iff_lt, if_pos hc, fits (show -1000000 ≤ b + (c - 1) by omega) (by omega), Bool.and_true, Bool.or_true]
theorem rgc2 {k : Nat} (h : k ≤ 1000) : RgC 2 (2 + 2 * (k : Int)) 2 k := by
  refine rgcs (by decide) (by decide) (by decide) (by decide) (by omega) (by omega) (by omega) ?_
  unfold Builtin.Range.rangeSize
  rw [if_pos (by decide)]
  split <;> omega
theorem rgc5 {a : Int} {k : Nat} (h0 : 0 ≤ a) (h1 : a ≤ 10000) (h : k ≤ 1000) : RgC a (a + 5 * (k : Int)) 5 k := by
  refine rgcs (by decide) (by decide) h0 (by omega) (by omega) (by omega) (by omega) ?_
  unfold Builtin.Range.rangeSize
  rw [if_pos (by decide)]
  split <;> omega
theorem at_k {ns : List Int} {i : Int} {k : Nat} (e : i = k) (h : k < ns.length) : atI (ns.map V.int) i = some (.int (ns.getD k 0)) := by
  subst e
  rw [at_nat (by omega) (by omega)]
  rfl
/-- a comprehension over a range with a step -/
theorem lc_steps {lo st : Int} {n : Nat} {g : TG} {tt : TT} {te : TE} {vs : List Nat} {σ : L2.St} {H1 : Hp} {D : Addr} {Qd : Hp → Prop} (J : Nat → Hp → Prop) (j0 : J 0 (upd H1 D (.lst []))) (js : ∀ i H, i < n → J i H → g (.int (lo + (i : Nat) * st)) (wipe σ vs) H fun σ2 H2 => wipe σ2 vs = wipe σ vs ∧ tt σ2 H2 fun b H3 => if b = true then te σ2 H3 fun y H4 => ∃ acc, H4 D = some (.lst acc) ∧ acc.length < sizeLine ∧ J (i + 1) (upd H4 D (.lst (acc ++ [y]))) else J (i + 1) H3) (jd : ∀ H, J n H → Qd H) : ∃ W : Nat → Nat → Hp → Prop, (∃ m, W 0 m (upd H1 D (.lst []))) ∧ ∀ i m H, W i m H → ((Itc lo st n).stop i H ∧ Qd H) ∨ ((Itc lo st n).go i H ∧ ∃ Nx : Hp → Prop, (∀ H', Nx H' → ∃ m', m' < m ∧ W (i + 1) m' H') ∧ ∀ x H', (Itc lo st n).yld i H x H' → g x (wipe σ vs) H' fun σ2 H2 => wipe σ2 vs = wipe σ vs ∧ tt σ2 H2 fun b H3 => if b = true then te σ2 H3 fun y H4 => ∃ acc, H4 D = some (.lst acc) ∧ acc.length < sizeLine ∧ Nx (upd H4 D (.lst (acc ++ [y]))) else Nx H3) := by
  refine ⟨fun i m H => (m = n - i ∧ i ≤ n) ∧ J i H, ⟨n, ⟨by simp, Nat.zero_le _⟩, j0⟩, ?_⟩
  rintro i m H ⟨⟨rfl, hi⟩, p⟩
  by_cases q : i < n
  · refine .inr ⟨q, J (i + 1), fun H' p' => ⟨n - (i + 1), by omega, ⟨rfl, q⟩, p'⟩, ?_⟩
    rintro x H' ⟨e, y⟩
    subst e y
    exact js i _ q p
  · obtain rfl : i = n := by omega
    exact .inl ⟨Nat.le_refl _, jd H p⟩
/-- the same, what is wanted told of the address -/
theorem madeA {C : Addr} {ok : List V → List (Str × V) → Prop} {us : List V} {fs : List (Str × V)} {H : Hp} {Q : Addr → Hp → Prop} {E : XK} (h : ok us fs) (k : ∀ x dx H', Same H H' → H x = none → H' x = some (.ins C dx fs) → Q x H') :
    ∀ x dx, H x = none → H dx = none → dx ≠ x → spMk C ok (.ref x :: (us ++ [])) (upd (upd H dx (.own x)) x (.ins C dx [])) (fun v H2 => v = .non ∧ Q x H2) E := by
  intro x dx hx hd ne
  refine ⟨x, dx, us, fs, by rw [List.append_nil], h, upd_same, rfl, ?_⟩
  rw [upd_upd]
  exact k x dx _ (Same.put (Same.new hd) hx) hx upd_same
theorem ChgAt.put {cc : Addr} {H : Hp} {a D : Addr} {x : Int × Int} {l : List V} {o : HO} (h : ChgAt cc H a x) (hD : H D = some (.lst l)) : ChgAt cc (upd H D o) a x := by
  obtain ⟨dx, h⟩ := h
  exact ⟨dx, by rw [upd_ne (fun z => by rw [z, hD] at h; cases h)]; exact h⟩
theorem RulAt.put {cc : Addr} {H : Hp} {a D : Addr} {x : R5} {l : List V} {o : HO} (h : RulAt cc H a x) (hD : H D = some (.lst l)) : RulAt cc (upd H D o) a x := by
  obtain ⟨dx, h⟩ := h
  exact ⟨dx, by rw [upd_ne (fun z => by rw [z, hD] at h; cases h)]; exact h⟩
/-- what has been made since -/
def fresh (H H' : Hp) : Hp := fun b => if H b = none then H' b else none
theorem fresh_at {H H' : Hp} {b : Addr} (h : H b = none) : fresh H H' b = H' b := if_pos h
theorem fresh_sub {H H' : Hp} : Same (fresh H H') H' := fun b o e => by
  unfold fresh at e
  split at e
  · exact e
  · cases e
theorem fresh_mono {H H1 H2 : Hp} (s : Same H1 H2) : Same (fresh H H1) (fresh H H2) := fun b o e => by
  unfold fresh at e ⊢
  split at e
  · next q => rw [if_pos q]; exact s b o e
  · cases e
theorem fresh_back {H0 H H' : Hp} (s : Same H0 H) : Same (fresh H H') (fresh H0 H') := fun b o e => by
  unfold fresh at e ⊢
  split at e
  · next q => rw [if_pos (s.free q)]; exact e
  · cases e
theorem ChgAt.putF {cc : Addr} {H0 H : Hp} {a D : Addr} {x : Int × Int} {l : List V} {o : HO} (h : ChgAt cc (fresh H0 H) a x) (hD : H D = some (.lst l)) : ChgAt cc (fresh H0 (upd H D o)) a x := by
  obtain ⟨dx, h⟩ := h
  have n : H0 a = none := by
    unfold fresh at h
    split at h
    · assumption
    · cases h
  rw [fresh_at n] at h
  exact ⟨dx, by rw [fresh_at n, upd_ne (fun z => by rw [z, hD] at h; cases h)]; exact h⟩
theorem RulAt.putF {cc : Addr} {H0 H : Hp} {a D : Addr} {x : R5} {l : List V} {o : HO} (h : RulAt cc (fresh H0 H) a x) (hD : H D = some (.lst l)) : RulAt cc (fresh H0 (upd H D o)) a x := by
  obtain ⟨dx, h⟩ := h
  have n : H0 a = none := by
    unfold fresh at h
    split at h
    · assumption
    · cases h
  rw [fresh_at n] at h
  exact ⟨dx, by rw [fresh_at n, upd_ne (fun z => by rw [z, hD] at h; cases h)]; exact h⟩
theorem get_app {α : Type} {l : List α} {b x : α} {j : Nat} (h : (l ++ [b])[j]? = some x) : l[j]? = some x ∨ (j = l.length ∧ b = x) := by
  rw [List.getElem?_append] at h
  split at h
  · exact .inl h
  · next q =>
    right
    by_cases e : j = l.length
    · subst e
      simp at h
      exact ⟨rfl, h⟩
    · rw [List.getElem?_eq_none (by simp; omega)] at h
      cases h
theorem rulL_get {ns : List Int} {ra j : Nat} {m : Int} {x : R5} (h : (rulL ns ra m)[j]? = some x) : x = r5At ns (ra + 1 + 5 * j) := by
  unfold rulL at h
  split at h
  · match j, h with
    | 0, h => exact (Option.some.inj h).symm
    | 1, h => exact (Option.some.inj h).symm
    | j + 2, h => cases h
  · cases h
abbrev s_clock_from : Stmt := topS 31
theorem sc_clock_from : FnScope ["numbers", "rules_at", "changes", "rules", "at"] ["numbers"] (defScope s_clock_from) := ⟨rfl, rfl, rfl, by decide +kernel, rfl, by decide +kernel, by decide +kernel⟩
def sp_clock_from (K : PySem.W.Frag) (cc cr cl : Addr) : Sp := fun vs H Q _ => ∃ (a : Addr) (ns : List Int), vs = [.ref a] ∧ SqL K H a (ns.map V.int) ∧ ns.length ≤ 1000 ∧ (Tm.clockOf ns = none → ∀ H', Same H H' → Q .non H') ∧
  (∀ c : Ck, Tm.clockOf ns = some c.to → c.Ok → ∀ p H', Same H H' → H p = none → ClkAt cc cr cl (fresh H H') p c → Q (.ref p) H')
theorem ok_clock_from (B : Blt K mg tbl) (Z : Clz K C_Change C_Rule C_Clock) (T : Txd K mg "clock_from" s_clock_from) (M_Clock : Dc P w K mg base "Clock" C_Clock ["self", "first", "changes", "rules"] 1 (sp_Clock C_Clock)) (M_Change : Dc P w K mg base "Change" C_Change ["self", "moment", "offset"] 1 (sp_Change C_Change)) (D_rule_from : Df P w K mg base "rule_from" ["numbers", "at"] 3 (sp_rule_from K C_Rule)) (D_is_offset : Df P w K mg base "is_offset" ["o"] 1 (sp_is_offset)) (D_are_changes : Df P w K mg base "are_changes" ["changes"] 2 (sp_are_changes C_Change)) (D_are_rules : Df P w K mg base "are_rules" ["rules"] 3 (sp_are_rules C_Rule)) : Df P w K mg base "clock_from" ["numbers"] 4 (sp_clock_from K C_Change C_Rule C_Clock) := by
  obtain ⟨f, fd, F, hm⟩ := T.ex
  refine ⟨f, fd, F.ok sc_clock_from (fun vs H Q E h => ?_) (fun cdv A outer s H vs Q E hr h => ⟨_, (pss_cons (ps_if (PW.pt (pw_or (pt_cmpR op_lt (pe_callB call_len_seq (by rfl) B.b_len (by decide +kernel) (pa_cons (pv 0) pa_nil)) pe_int (nomark _)) (pw_or1 (pt_not (pt_chain op_le op_le pe_int (pe_ix ix_list (pv 0) pe_int (fun _ _ => rfl)) (pe_gc (by rfl) B.MOST_CHANGES))))))
     (pss_one (ps_ret pe_non))
     pss_nil)
    (pss_cons (ps_set (i := 1) sc_clock_from.nd rfl (Or.inl rfl) (pe_op op_add pe_int (pe_op op_mul pe_int (pe_ix ix_list (pv 0) pe_int (fun _ _ => rfl)))))
    (pss_cons (ps_if (PW.pt (pw_or (pt_cmpR op_le (pe_callB call_len_seq (by rfl) B.b_len (by decide +kernel) (pa_cons (pv 0) pa_nil)) (pv 1) (nomark _)) (pw_or1 (pt_cmpR op_notIn_seq (pe_ix ix_list (pv 0) (pv 1) (fun _ _ => rfl)) (pe_tup (pa_cons pe_int (pa_cons pe_int pa_nil))) (by rfl)))))
     (pss_one (ps_ret pe_non))
     pss_nil)
    (pss_cons (ps_if (pt_cmpR op_ne (pe_callB call_len_seq (by rfl) B.b_len (by decide +kernel) (pa_cons (pv 0) pa_nil)) (pe_op op_add (pe_op op_add (pv 1) pe_int) (pe_op op_mul pe_int (pe_ix ix_list (pv 0) (pv 1) (fun _ _ => rfl)))) (nomark _))
     (pss_one (ps_ret pe_non))
     pss_nil)
    (pss_cons (ps_setLc (i := 2) (own := [("at", 4)]) (g := gName 4) (tt := tYes) (te := (tMake C_Change (sp_Change C_Change) [] E0 (tCons (tOp (rIxL K) (tVar 0) (tVar 4)) (tCons (tOp (rIxL K) (tVar 0) (tOp (rI0 fun i j => V.int (i + j)) (tVar 4) (tC (.int 1)))) tNil)))) rfl sc_clock_from.nd rfl rfl (sw_true rfl rfl rfl (by decide +kernel)) (pi_range3 (by rfl) B.b_range (pa_cons pe_int (pa_cons (pv 1) (pa_cons pe_int pa_nil)))) (blkOk_by (own := [("at", 4)]) (N := ["numbers", "rules_at", "changes", "rules", "at"]) (sc := defScope s_clock_from) (by decide +kernel)) (fun _ _ _ _ _ => pg_name (i := 4) sc_clock_from.nd rfl (Or.inl rfl)) (fun _ _ _ _ _ => pts_nil) (fun _ _ _ _ _ => (pe_makeD M_Change hr (by decide) (by rfl) (pa_cons (pe_ix ix_list (pv 0) (pv 4) (fun _ _ => rfl)) (pa_cons (pe_ix ix_list (pv 0) (pe_op op_add (pv 4) pe_int) (fun _ _ => rfl)) pa_nil)))))
    (pss_cons (ps_setLc (i := 3) (own := [("at", 4)]) (g := gName 4) (tt := tYes) (te := (tCall (sp_rule_from K C_Rule) [] E0 (tCons (tVar 0) (tCons (tVar 4) tNil)))) rfl sc_clock_from.nd rfl rfl (sw_true rfl rfl rfl (by decide +kernel)) (pi_range3 (by rfl) B.b_range (pa_cons (pe_op op_add (pv 1) pe_int) (pa_cons (pe_callB call_len_seq (by rfl) B.b_len (by decide +kernel) (pa_cons (pv 0) pa_nil)) (pa_cons pe_int pa_nil)))) (blkOk_by (own := [("at", 4)]) (N := ["numbers", "rules_at", "changes", "rules", "at"]) (sc := defScope s_clock_from) (by decide +kernel)) (fun _ _ _ _ _ => pg_name (i := 4) sc_clock_from.nd rfl (Or.inl rfl)) (fun _ _ _ _ _ => pts_nil) (fun _ _ _ _ _ => (pe_callD D_rule_from hr (by decide) (by rfl) (pa_cons (pv 0) (pa_cons (pv 4) pa_nil)))))
    (pss_cons (ps_if (pt_not (PW.pt (pw_and (pt_val (pe_callD D_is_offset hr (by decide) (by rfl) (pa_cons (pe_ix ix_list (pv 0) pe_int (fun _ _ => rfl)) pa_nil))) (pw_and (pt_val (pe_callD D_are_changes hr (by decide) (by rfl) (pa_cons (pv 2) pa_nil))) (pw_and1 (pt_val (pe_callD D_are_rules hr (by decide) (by rfl) (pa_cons (pv 3) pa_nil))))))))
     (pss_one (ps_ret pe_non))
     pss_nil)
    (pss_one (ps_ret (pe_makeD M_Clock hr (by decide) (by rfl) (pa_cons (pe_ix ix_list (pv 0) pe_int (fun _ _ => rfl)) (pa_cons (pv 2) (pa_cons (pv 3) pa_nil))))))))))))), ?_⟩), hm, F.kp, F.binds fun _ _ _ _ _ _ us hl => match us, hl with | [_], _ => rfl⟩
  · obtain ⟨a, ns, rfl, _⟩ := h
    rfl
  · obtain ⟨a, ns, rfl, hs, hl, hN, hS⟩ := h
    have len : (ns.map V.int).length = ns.length := List.length_map _
    refine ⟨_, rfl, a, _, rfl, .inl hs, _, _, rfl, rfl, _, rfl, ?_⟩
    rw [len]
    by_cases c0 : (ns.length : Int) < 2
    · refine ifT (decide_eq_true c0) ?_
      refine ifT (c := true) rfl ?_
      exact hN (clockOf_short (by omega)) H (Same.refl H)
    refine ifF (decide_eq_false c0) ?_
    refine ⟨_, rfl, a, _, _, _, rfl, rfl, hs, at_k (k := 1) rfl (by omega), _, _, rfl, rfl, _, rfl, ?_⟩
    by_cases c1 : 0 ≤ ns.getD 1 0
    case neg =>
      refine ifF (decide_eq_false c1) ?_
      refine ⟨_, rfl, ?_⟩
      refine ifT (c := true) rfl ?_
      exact hN (clockOf_n (by omega) (fun q => c1 q.1)) H (Same.refl H)
    refine ifT (decide_eq_true c1) ?_
    refine ⟨_, _, rfl, rfl, _, rfl, ?_⟩
    by_cases c2 : ns.getD 1 0 ≤ 64
    case neg =>
      refine ifT (by rw [decide_eq_false c2]; rfl) ?_
      exact hN (clockOf_n (by omega) (fun q => c2 q.2)) H (Same.refl H)
    refine ifF (by rw [decide_eq_true c2]; rfl) ?_
    obtain ⟨k, hk⟩ : ∃ k : Nat, ns.getD 1 0 = k := ⟨(ns.getD 1 0).toNat, by omega⟩
    have k64 : k ≤ 64 := by omega
    refine ⟨_, rfl, a, _, _, _, rfl, rfl, hs, at_k (k := 1) rfl (by omega), _, _, rfl, rfl, .inl ⟨by decide, by decide⟩, _, _, rfl, rfl, ?_⟩
    -- len(numbers) <= rules_at or numbers[rules_at] not in (0, 2)
    rw [hk]
    refine ⟨_, rfl, a, _, rfl, .inl hs, _, rfl, _, _, rfl, rfl, _, rfl, ?_⟩
    rw [len]
    by_cases c3 : (ns.length : Int) ≤ 2 + 2 * (k : Int)
    · refine ifT (decide_eq_true c3) ?_
      refine ifT (c := true) rfl ?_
      exact hN (clockOf_few (by omega) hk k64 (by omega)) H (Same.refl H)
    refine ifF (decide_eq_false c3) ?_
    have g := at_k (ns := ns) (i := 2 + 2 * (k : Int)) (k := 2 + 2 * k) (by omega) (by omega)
    generalize hm : ns.getD (2 + 2 * k) 0 = m at *
    refine ⟨_, rfl, _, rfl, a, _, _, _, rfl, rfl, hs, g, len2, fun t ht => ?_⟩
    have s1 : Same H (upd H t (.tup [.int 0, .int 2])) := Same.new ht
    have e1 := (clockOf_m (ns := ns) (by omega) hk k64 (by omega))
    rw [hm] at e1
    generalize hH1 : upd H t (.tup [.int 0, .int 2]) = H1 at *
    refine ⟨t, _, rfl, .inr (SqT.of (by rw [← hH1]; exact upd_same)), rfl, rfl, _, rfl, ?_⟩
    by_cases c4 : m = 0 ∨ m = 2
    case neg =>
      refine ifT ?_ ?_
      · show (!(((0 : Int) == m) || (((2 : Int) == m) || false))) = true
        have a1 : ((0 : Int) == m) = false := beq_false_of_ne (by omega)
        have a2 : ((2 : Int) == m) = false := beq_false_of_ne (by omega)
        rw [a1, a2]
        rfl
      · exact hN (e1 c4) _ s1
    refine ifF ?_ ?_
    · show (!(((0 : Int) == m) || (((2 : Int) == m) || false))) = false
      rcases c4 with rfl | rfl <;> rfl
    -- len(numbers) != rules_at + 1 + 5 * numbers[rules_at]
    have hs1 := s1.seq hs
    refine ⟨_, rfl, a, _, rfl, .inl hs1, _, rfl, _, _, rfl, rfl, _, rfl, _, rfl, a, _, _, _, rfl, rfl, hs1, g, _, _, rfl, rfl, .inl ⟨by decide, by decide⟩, _, _, rfl, rfl, rfl, _, rfl, ?_⟩
    rw [len]
    by_cases c5 : (ns.length : Int) = 2 + 2 * (k : Int) + 1 + 5 * m
    case neg =>
      refine ifT ?_ ?_
      · rw [decide_eq_false (fun q => c5 (V.int.inj q))]
        rfl
      · exact hN (clockOf_len (by omega) hk k64 (by omega) hm c4 c5) _ s1
    refine ifF ?_ ?_
    · rw [decide_eq_true (congrArg V.int c5)]
      rfl
    have key := clockOf_end (ns := ns) (by omega) hk k64 (by omega) hm c4 c5
    have chl : (chgs k (ns.drop 2)).length = k := chgs_len k _ (by simp; omega)
    have chg : ∀ i, i < k → (chgs k (ns.drop 2))[i]? = some (ns.getD (2 + 2 * i) 0, ns.getD (2 + 2 * i + 1) 0) := by
      intro i hi
      rw [chgs_get k _ i hi (by simp; omega)]
      simp [List.getD, List.getElem?_drop, Nat.add_assoc]
    generalize chgs k (ns.drop 2) = cs at *
    -- changes = [Change(numbers[at], numbers[at + 1]) for at in range(2, rules_at, 2)]
    refine ⟨_, rfl, 2, 2 + 2 * (k : Int), 2, k, rfl, rgc2 (by omega), fun D hD => lc_steps (lo := 2) (st := 2) (n := k) (fun i H' => Same H1 H' ∧ ∃ as : List Addr, H' D = some (.lst (as.map V.ref)) ∧ as.length = i ∧ ∀ (j : Nat) (b : Addr) (x : Int × Int), as[j]? = some b → cs[j]? = some x → ChgAt C_Change (fresh H H') b x) ⟨Same.new hD, [], upd_same, rfl, fun j b x e => by cases e⟩ ?_ ?_⟩
    · rintro i H2 hi ⟨s2, as, hD2, al, hat⟩
      refine ⟨rfl, ?_⟩
      simp only [tYes, if_true]
      have hs2 := s2.seq hs1
      refine ⟨_, rfl, _, rfl, a, _, _, _, rfl, rfl, hs2, at_k (k := 2 + 2 * i) (by omega) (by omega), ?_⟩
      refine ⟨_, rfl, _, rfl, _, _, rfl, rfl, a, _, _, _, rfl, rfl, hs2, at_k (k := 2 + 2 * i + 1) (by omega) (by omega), ?_⟩
      dsimp only [tNil, sp_Change]
      refine madeA (C := C_Change) (ok := fun us fs => ∃ x : Int × Int, us = [.int x.1, .int x.2] ∧ fs = chF x) (us := [.int (ns.getD (2 + 2 * i) 0), .int (ns.getD (2 + 2 * i + 1) 0)]) ⟨(ns.getD (2 + 2 * i) 0, ns.getD (2 + 2 * i + 1) 0), rfl, rfl⟩ fun y dy H3 s3 ny hy => ?_
      have hD3 := s3 _ _ hD2
      refine ⟨_, hD3, by rw [List.length_map, al]; exact small_len (by omega), Same.put (s2.trans s3) hD, as ++ [y], by rw [upd_same, List.map_append]; rfl, by rw [List.length_append, al]; rfl, fun j b x hb hx => ?_⟩
      rcases get_app hb with hb | ⟨rfl, rfl⟩
      · exact ((hat j b x hb hx).same (fresh_mono s3)).putF hD3
      · rw [al, chg i hi] at hx
        cases hx
        exact ChgAt.putF ⟨dy, by rw [fresh_at (s1.free (s2.free ny))]; exact hy⟩ hD3
    rintro H2 ⟨s2, as, hD2, al, hat⟩
    have hs2 := s2.seq hs1
    have nD := s1.free hD
    have LC : LstAt (ChgAt C_Change (fresh H H2)) (fresh H H2) D cs := ⟨as, by rw [fresh_at nD]; exact hD2, by omega, hat⟩
    -- rules = [rule_from(numbers, at) for at in range(rules_at + 1, len(numbers), 5)]
    have rl : (rulL ns (2 + 2 * k) m).length = m.toNat := by
      unfold rulL
      rcases c4 with rfl | rfl <;> rfl
    have rg := fun (j : Nat) (x : R5) (h : (rulL ns (2 + 2 * k) m)[j]? = some x) => rulL_get h
    have two : rulL ns (2 + 2 * k) m = [] ∨ ∃ r s, rulL ns (2 + 2 * k) m = [r, s] := by
      unfold rulL
      split
      · exact .inr ⟨_, _, rfl⟩
      · exact .inl rfl
    generalize rulL ns (2 + 2 * k) m = rs at *
    refine ⟨_, rfl, _, _, rfl, rfl, _, rfl, a, _, rfl, .inl hs2, 2 + 2 * (k : Int) + 1, (ns.length : Int), 5, m.toNat, by rw [len], ?_, fun E2 hE => lc_steps (lo := 2 + 2 * (k : Int) + 1) (st := 5) (n := m.toNat) (fun i H' => Same H2 H' ∧ ∃ as : List Addr, H' E2 = some (.lst (as.map V.ref)) ∧ as.length = i ∧ ∀ (j : Nat) (b : Addr) (x : R5), as[j]? = some b → rs[j]? = some x → RulAt C_Rule (fresh H H') b x) ⟨Same.new hE, [], upd_same, rfl, fun j b x e => by cases e⟩ ?_ ?_⟩
    · have := rgc5 (a := 2 + 2 * (k : Int) + 1) (k := m.toNat) (by omega) (by omega) (by omega)
      rw [show (ns.length : Int) = 2 + 2 * (k : Int) + 1 + 5 * ((m.toNat : Nat) : Int) by omega]
      exact this
    · rintro i H3 hi ⟨s3, bs, hE3, bl, bat⟩
      refine ⟨rfl, ?_⟩
      simp only [tYes, if_true]
      have hs3 := s3.seq hs2
      refine ⟨_, rfl, _, rfl, a, ns, 2 + 2 * k + 1 + 5 * i, ?_, hs3, by omega, fun y H4 s4 ny hy => ?_⟩
      · show [V.ref a, V.int _] = _
        rw [show 2 + 2 * (k : Int) + 1 + (i : Int) * 5 = ((2 + 2 * k + 1 + 5 * i : Nat) : Int) by omega]
      have hE4 := s4 _ _ hE3
      refine ⟨_, hE4, by rw [List.length_map, bl]; exact small_len (by omega), Same.put (s3.trans s4) hE, bs ++ [y], by rw [upd_same, List.map_append]; rfl, by rw [List.length_append, bl]; rfl, fun j b x hb hx => ?_⟩
      rcases get_app hb with hb | ⟨rfl, rfl⟩
      · exact ((bat j b x hb hx).same (fresh_mono s4)).putF hE4
      · rw [bl] at hx
        rw [rg i x hx]
        obtain ⟨dy, hy⟩ := hy
        exact RulAt.putF ⟨dy, by rw [fresh_at (s1.free (s2.free (s3.free ny)))]; exact hy⟩ hE4
    rintro H3 ⟨s3, bs, hE3, bl, bat⟩
    have hs3 := s3.seq hs2
    have LC3 := LC.same (fresh_mono (H := H) s3) fun _ _ (q : ChgAt C_Change (fresh H H2) _ _) => q.same (fresh_mono s3)
    have nE := s1.free (s2.free hE)
    have LR : LstAt (RulAt C_Rule (fresh H H3)) (fresh H H3) E2 rs := ⟨bs, by rw [fresh_at nE]; exact hE3, by omega, bat⟩
    -- the last tests
    refine ⟨_, rfl, a, _, _, _, rfl, rfl, hs3, at_k (k := 0) rfl (by omega), _, rfl, trivial, _, rfl, ?_⟩
    have S3 := s1.trans (s2.trans s3)
    cases o1 : Tm.offsetOk (ns.getD 0 0)
    · refine iteF ?_
      refine ifT (c := true) rfl ?_
      exact hN (by rw [key, o1]; rfl) _ S3
    refine iteT ?_
    refine ⟨_, rfl, D, cs, rfl, LC3.same fresh_sub fun _ _ (q : ChgAt C_Change (fresh H H3) _ _) => q.same fresh_sub, by omega, _, rfl, ?_⟩
    cases o2 : areChg cs
    · refine iteF ?_
      refine ifT (c := true) rfl ?_
      exact hN (by rw [key, o1, o2]; rfl) _ S3
    refine iteT ?_
    refine ⟨_, rfl, E2, rs, rfl, LR.same fresh_sub fun _ _ (q : RulAt C_Rule (fresh H H3) _ _) => q.same fresh_sub, two, _, rfl, ?_⟩
    cases o3 : areRul rs
    · refine ifT (c := true) rfl ?_
      exact hN (by rw [key, o1, o2, o3]; rfl) _ S3
    refine ifF (c := false) rfl ?_
    refine ⟨_, rfl, a, _, _, _, rfl, rfl, hs3, at_k (k := 0) rfl (by omega), _, rfl, _, rfl, ?_⟩
    dsimp only [tNil, sp_Clock]
    refine madeA (C := C_Clock) (ok := fun us fs => ∃ (f : Int) (la lr : Addr), us = [.int f, .ref la, .ref lr] ∧ fs = ckF f la lr) (us := [.int (ns.getD 0 0), .ref D, .ref E2]) ⟨ns.getD 0 0, D, E2, rfl, rfl⟩ fun x dx H4 s4 nx hx => ?_
    have okC : Ck.Ok ⟨ns.getD 0 0, cs, rs⟩ := by
      refine ⟨by show cs.length ≤ 64; omega, ?_, ?_⟩
      · unfold areChg at o2
        rw [Bool.and_eq_true] at o2
        exact o2.2
      · rcases two with e | ⟨r, s, e⟩
        · exact .inl e
        · subst e
          have o3 : ([r, s].all R5.ok && !meetM r s) = true := o3
          rw [Bool.and_eq_true, List.all_cons, List.all_cons, Bool.and_eq_true, Bool.and_eq_true] at o3
          exact .inr ⟨r, s, rfl, R5.ok_iff.mp o3.1.1, R5.ok_iff.mp o3.1.2.1, by simpa using o3.2⟩
    refine hS ⟨ns.getD 0 0, cs, rs⟩ (by rw [key, o1, o2, o3]; rfl) okC x H4 (S3.trans s4) (S3.free nx) ⟨dx, D, E2, by rw [fresh_at (S3.free nx)]; exact hx, LC3.same (fresh_mono s4) fun _ _ (q : ChgAt C_Change (fresh H H3) _ _) => q.same (fresh_mono s4), LR.same (fresh_mono s4) fun _ _ (q : RulAt C_Rule (fresh H H3) _ _) => q.same (fresh_mono s4)⟩
end
end Cc
set_option Elab.async false
set_option maxRecDepth 100000
set_option maxHeartbeats 2000000
set_option linter.unusedSimpArgs false
set_option linter.unusedVariables false
namespace Cc
open PySem PySem.Spec PyProof.Rows L2
/-! ## The answers of the calendar's and the clock's calls -/
def ansDay (y m d : Int) : List Int := if isDateM y m d = true then [0, dayNum y m d] else [-1]
def ansDate (n : Int) : List Int := if Tm.isDay n = true then [0] ++ dateL n ++ [wdM n] ++ weekL n else [-1]
def ansOffset (c : Tm.Clock) (t : Int) : List Int := if Tm.isMoment t = true then [0, Tm.offset c t] else [-1]
def ansRead (c : Tm.Clock) (t : Int) : List Int := if Tm.isMoment t = true then (if Tm.isMoment (t + Tm.offset c t) = true then [0] ++ dateL ((t + Tm.offset c t) / 86400) ++ [(t + Tm.offset c t) % 86400 / 3600, (t + Tm.offset c t) % 86400 / 60 % 60, (t + Tm.offset c t) % 86400 % 60] else [-4]) else [-1]
def hmsOk (h mi s : Int) : Bool := decide ((0 ≤ h ∧ h ≤ 23) ∧ (0 ≤ mi ∧ mi ≤ 59) ∧ 0 ≤ s ∧ s ≤ 59)
def whenR (y m d h mi s : Int) : Tm.Read := ⟨y, m.toNat, d.toNat, (h * 3600 + mi * 60 + s).toNat⟩
def ansWhen (c : Tm.Clock) (y m d h mi s : Int) : List Int := if (isDateM y m d && hmsOk h mi s) = true then ((Tm.whens c (whenR y m d h mi s)).length : Int) :: Tm.whens c (whenR y m d h mi s) else [-1]
theorem told_day (s : Tm.State) (y m d : Int) : TmNeutral.told (Tm.step s (.day y m d)).2 = ansDay y m d := by
  unfold Tm.step ansDay
  simp only
  cases e : isDateM y m d with
  | false =>
    rw [dateIn_none e]
    rfl
  | true =>
    rw [dateIn_some e]
    obtain ⟨_, ⟨m1, m2⟩, d1, _⟩ := isDateM_iff.mp e
    show [(0 : Int), Tm.dayOf y m.toNat d.toNat] = [0, dayNum y m d]
    rw [dayNum_eq m1 (by omega) (by omega)]
theorem told_date (s : Tm.State) (n : Int) : TmNeutral.told (Tm.step s (.date n)).2 = ansDate n := by
  unfold Tm.step ansDate
  simp only
  split
  · show [(0 : Int), _, _, _, _, _, _] = [0, _, _, _, wdM n, _, _]
    rw [wd_eq]
  · rfl
theorem told_offset (s : Tm.State) (t : Int) : TmNeutral.told (Tm.step s (.offset t)).2 = ansOffset s.clock t := by
  unfold Tm.step ansOffset
  simp only
  split <;> rfl
theorem told_read (s : Tm.State) (t : Int) : TmNeutral.told (Tm.step s (.read t)).2 = ansRead s.clock t := by
  unfold Tm.step ansRead Tm.reading
  simp only
  cases e : Tm.isMoment t with
  | false => rfl
  | true =>
    rw [if_neg (by simp), if_pos rfl]
    cases e2 : Tm.isMoment (t + Tm.offset s.clock t) with
    | false => rfl
    | true =>
      rw [if_pos rfl, if_pos rfl]
      generalize t + Tm.offset s.clock t = u
      show [(0 : Int), (Tm.dateOf (Int.fdiv u 86400)).1, ((Tm.dateOf (Int.fdiv u 86400)).2.1 : Nat), ((Tm.dateOf (Int.fdiv u 86400)).2.2 : Nat), (((u % 86400).toNat / 3600 : Nat) : Int), (((u % 86400).toNat / 60 % 60 : Nat) : Int), (((u % 86400).toNat % 60 : Nat) : Int)] = [0, (Tm.dateOf (u / 86400)).1, ((Tm.dateOf (u / 86400)).2.1 : Nat), ((Tm.dateOf (u / 86400)).2.2 : Nat), u % 86400 / 3600, u % 86400 / 60 % 60, u % 86400 % 60]
      rw [Int.fdiv_eq_ediv_of_nonneg _ (by decide)]
      have a1 : (((u % 86400).toNat / 3600 : Nat) : Int) = u % 86400 / 3600 := by omega
      have a2 : (((u % 86400).toNat / 60 % 60 : Nat) : Int) = u % 86400 / 60 % 60 := by omega
      have a3 : (((u % 86400).toNat % 60 : Nat) : Int) = u % 86400 % 60 := by omega
      rw [a1, a2, a3]
theorem told_when (s : Tm.State) (y m d h mi se : Int) : TmNeutral.told (Tm.step s (.when_ y m d h mi se)).2 = ansWhen s.clock y m d h mi se := by
  unfold Tm.step ansWhen hmsOk
  simp only
  cases e : isDateM y m d with
  | false =>
    rw [dateIn_none e]
    rfl
  | true =>
    rw [dateIn_some e]
    simp only [Bool.true_and, decide_eq_true_eq]
    by_cases c : (0 ≤ h ∧ h ≤ 23) ∧ (0 ≤ mi ∧ mi ≤ 59) ∧ 0 ≤ se ∧ se ≤ 59
    · rw [if_pos c, if_neg (by omega)]
      rfl
    · rw [if_neg c, if_pos (by omega)]
      rfl
theorem flat_when {y m d h mi s : Int} (hd : isDateM y m d = true) (hh : hmsOk h mi s = true) : Tm.flat (whenR y m d h mi s) = dayNum y m d * 86400 + h * 3600 + mi * 60 + s := by
  obtain ⟨_, ⟨m1, m2⟩, d1, _⟩ := isDateM_iff.mp hd
  have := of_decide_eq_true hh
  unfold Tm.flat whenR
  show Tm.dayOf y m.toNat d.toNat * 86400 + (((h * 3600 + mi * 60 + s).toNat : Nat) : Int) = _
  rw [dayNum_eq m1 (by omega) (by omega)]
  omega
theorem told_set_none {s : Tm.State} {l : List Int} (e : Tm.clockOf l = none) : Tm.step s (.setclock l) = (s, ⟨-5, []⟩) := by
  unfold Tm.step
  simp only
  rw [e]
  rfl
theorem told_set_some {s : Tm.State} {l : List Int} {c : Tm.Clock} (e : Tm.clockOf l = some c) : Tm.step s (.setclock l) = ({ s with clock := c }, ⟨(c.changes.length : Nat), []⟩) := by
  unfold Tm.step
  simp only
  rw [e]
  rfl
/-- what a list of calls works on: its clock, then whatever else it has -/
def keF (a : Addr) (rest : List (Str × V)) : List (Str × V) := ("clock", .ref a) :: rest
theorem keF_clock (a : Addr) (rest : List (Str × V)) : (keF a rest).lookup ("clock" : Str) = some (.ref a) := lk_here
theorem keF_put (a b : Addr) (rest : List (Str × V)) : putF "clock" (.ref b) (keF a rest) = keF b rest := put_here
structure Kez (K : PySem.W.Frag) (ck : Addr) : Prop where
  cl : Cls K ck
  c1 : NoAttr K ck "clock"
def KepAt (cc cr cl ck : Addr) (H : Hp) (p : Addr) (c : Ck) : Prop := ∃ (dx a : Addr) (rest : List (Str × V)), H p = some (.ins ck dx (keF a rest)) ∧ rest.length ≤ 10 ∧ ClkAt cc cr cl H a c
section
variable {P : Program} {w : World} {K : PySem.W.Frag} {mg : Str → Option Value} {base : Heap} {tbl C_Change C_Rule C_Clock C_Kept : Addr}
theorem giveL.at {H H' : Hp} {Q : VK} {l : List Int} {p : Addr} (h : giveL H Q l) (s : Same H H') (np : H' p = none) : Q (.ref p) (upd H' p (.lst (l.map V.int))) := h p _ (s.trans (Same.new np)) (s.free np) upd_same
abbrev s_answer_day : Stmt := topS 87
theorem sc_answer_day : FnScope ["y", "m", "d"] ["y", "m", "d"] (defScope s_answer_day) := ⟨rfl, rfl, rfl, by decide +kernel, rfl, by decide +kernel, by decide +kernel⟩
def sp_answer_day : Sp := fun vs H Q _ => ∃ y m d : Int, vs = [.int y, .int m, .int d] ∧ giveL H Q (ansDay y m d)
theorem ok_answer_day (B : Blt K mg tbl) (T : Txd K mg "answer_day" s_answer_day) (D_is_date : Df P w K mg base "is_date" ["y", "m", "d"] 4 (sp_is_date)) (D_day_number : Df P w K mg base "day_number" ["y", "m", "d"] 3 (sp_day_number)) : Df P w K mg base "answer_day" ["y", "m", "d"] 5 (sp_answer_day) := by
  obtain ⟨f, fd, F, hm⟩ := T.ex
  refine ⟨f, fd, F.ok sc_answer_day (fun vs H Q E h => ?_) (fun cdv A outer s H vs Q E hr h => ⟨_, (pss_cons (ps_if (pt_not (pt_val (pe_callD D_is_date hr (by decide) (by rfl) (pa_cons (pv 0) (pa_cons (pv 1) (pa_cons (pv 2) pa_nil))))))
     (pss_one (ps_ret (pe_lst (pa_cons (pe_un un_neg pe_int) pa_nil))))
     pss_nil)
    (pss_one (ps_ret (pe_lst (pa_cons pe_int (pa_cons (pe_callD D_day_number hr (by decide) (by rfl) (pa_cons (pv 0) (pa_cons (pv 1) (pa_cons (pv 2) pa_nil)))) pa_nil)))))), ?_⟩), hm, F.kp, F.binds fun _ _ _ _ _ _ us hl => match us, hl with | [_, _, _], _ => rfl⟩
  · obtain ⟨y, m, d, rfl, _⟩ := h
    rfl
  · obtain ⟨y, m, d, rfl, h⟩ := h
    simp only [sp_is_date, sp_day_number, cxOf, tFld, HO.ins.injEq, tSeq, tLst, tTup, tNext, tBreak, tCont, tRet, tRetN, tDrop, tAsg, gName, tAug, ipI, tIfS, tIf, tTest, tChain, tB, tAnd, tOr, tNot, tAndV, tOrV, tNotV, tOp, tUn, rU, tVar, tC, rI, rI0, rEq, rNe, CDiv, CMul, tCall, tCB, tCons, tNil, sp1, sp2, sp3, sp4, L2.start, scal, List.map, List.length, List.replicate, List.append, List.cons_append, List.nil_append, List.append_nil, List.set_cons_zero, List.set_cons_succ, List.getElem?_cons_zero, List.getElem?_cons_succ, Option.some.injEq, V.int.injEq, V.bl.injEq, V.ref.injEq, List.cons.injEq, and_assoc, exists_and_left, exists_eq_left', exists_eq_left, and_true, true_and, decide_eq_true_eq, Bool.not_eq_true', decide_eq_false_iff_not, if_true, if_false, reduceCtorEq, decide_false, decide_true, Bool.false_eq_true, Bool.true_eq_false, Bool.not_true, Bool.not_false, ite_true, ite_false, Int.reduceLT, Int.reduceLE, Int.reduceNeg, Int.reducePow, or_true, true_or, not_true_eq_false, not_false_eq_true, exists_eq, exists_eq']
    unfold ansDay at h
    cases e : isDateM y m d with
    | false =>
      rw [e] at h
      simp only [cxOf, tFld, HO.ins.injEq, tSeq, tLst, tTup, tNext, tBreak, tCont, tRet, tRetN, tDrop, tAsg, gName, tAug, ipI, tIfS, tIf, tTest, tChain, tB, tAnd, tOr, tNot, tAndV, tOrV, tNotV, tOp, tUn, rU, tVar, tC, rI, rI0, rEq, rNe, CDiv, CMul, tCall, tCB, tCons, tNil, sp1, sp2, sp3, sp4, L2.start, scal, List.map, List.length, List.replicate, List.append, List.cons_append, List.nil_append, List.append_nil, List.set_cons_zero, List.set_cons_succ, List.getElem?_cons_zero, List.getElem?_cons_succ, Option.some.injEq, V.int.injEq, V.bl.injEq, V.ref.injEq, List.cons.injEq, and_assoc, exists_and_left, exists_eq_left', exists_eq_left, and_true, true_and, decide_eq_true_eq, Bool.not_eq_true', decide_eq_false_iff_not, if_true, if_false, reduceCtorEq, decide_false, decide_true, Bool.false_eq_true, Bool.true_eq_false, Bool.not_true, Bool.not_false, ite_true, ite_false, Int.reduceLT, Int.reduceLE, Int.reduceNeg, Int.reducePow, or_true, true_or, not_true_eq_false, not_false_eq_true, exists_eq, exists_eq'] at h ⊢
      exact ⟨small_le (by decide), fun p hp => h.at (Same.refl H) hp⟩
    | true =>
      rw [e] at h
      obtain ⟨_, ⟨m1, m2⟩, _, _⟩ := isDateM_iff.mp e
      simp only [cxOf, tFld, HO.ins.injEq, tSeq, tLst, tTup, tNext, tBreak, tCont, tRet, tRetN, tDrop, tAsg, gName, tAug, ipI, tIfS, tIf, tTest, tChain, tB, tAnd, tOr, tNot, tAndV, tOrV, tNotV, tOp, tUn, rU, tVar, tC, rI, rI0, rEq, rNe, CDiv, CMul, tCall, tCB, tCons, tNil, sp1, sp2, sp3, sp4, L2.start, scal, List.map, List.length, List.replicate, List.append, List.cons_append, List.nil_append, List.append_nil, List.set_cons_zero, List.set_cons_succ, List.getElem?_cons_zero, List.getElem?_cons_succ, Option.some.injEq, V.int.injEq, V.bl.injEq, V.ref.injEq, List.cons.injEq, and_assoc, exists_and_left, exists_eq_left', exists_eq_left, and_true, true_and, decide_eq_true_eq, Bool.not_eq_true', decide_eq_false_iff_not, if_true, if_false, reduceCtorEq, decide_false, decide_true, Bool.false_eq_true, Bool.true_eq_false, Bool.not_true, Bool.not_false, ite_true, ite_false, Int.reduceLT, Int.reduceLE, Int.reduceNeg, Int.reducePow, or_true, true_or, not_true_eq_false, not_false_eq_true, exists_eq, exists_eq'] at h ⊢
      exact ⟨m1, by omega, small_le (by decide), fun p hp => h.at (Same.refl H) hp⟩
abbrev s_answer_date : Stmt := topS 88
theorem sc_answer_date : FnScope ["n"] ["n"] (defScope s_answer_date) := ⟨rfl, rfl, rfl, by decide +kernel, rfl, by decide +kernel, by decide +kernel⟩
def sp_answer_date : Sp := fun vs H Q _ => ∃ n : Int, vs = [.int n] ∧ giveL H Q (ansDate n)
theorem ok_answer_date (B : Blt K mg tbl) (T : Txd K mg "answer_date" s_answer_date) (D_is_day : Df P w K mg base "is_day" ["n"] 1 (sp_is_day)) (D_week_of : Df P w K mg base "week_of" ["n"] 2 (sp_week_of)) (D_date_of : Df P w K mg base "date_of" ["n"] 3 (sp_date_of)) (D_weekday_of : Df P w K mg base "weekday_of" ["n"] 1 (sp_weekday_of)) : Df P w K mg base "answer_date" ["n"] 4 (sp_answer_date) := by
  obtain ⟨f, fd, F, hm⟩ := T.ex
  refine ⟨f, fd, F.ok sc_answer_date (fun vs H Q E h => ?_) (fun cdv A outer s H vs Q E hr h => ⟨_, (pss_cons (ps_if (pt_not (pt_val (pe_callD D_is_day hr (by decide) (by rfl) (pa_cons (pv 0) pa_nil))))
     (pss_one (ps_ret (pe_lst (pa_cons (pe_un un_neg pe_int) pa_nil))))
     pss_nil)
    (pss_one (ps_ret (pe_op op_cat (pe_op op_cat (pe_op op_cat (pe_lst (pa_cons pe_int pa_nil)) (pe_callD D_date_of hr (by decide) (by rfl) (pa_cons (pv 0) pa_nil))) (pe_lst (pa_cons (pe_callD D_weekday_of hr (by decide) (by rfl) (pa_cons (pv 0) pa_nil)) pa_nil))) (pe_callD D_week_of hr (by decide) (by rfl) (pa_cons (pv 0) pa_nil)))))), ?_⟩), hm, F.kp, F.binds fun _ _ _ _ _ _ us hl => match us, hl with | [_], _ => rfl⟩
  · obtain ⟨n, rfl, _⟩ := h
    rfl
  · obtain ⟨n, rfl, h⟩ := h
    unfold ansDate at h
    refine ⟨_, rfl, _, rfl, trivial, _, rfl, ?_⟩
    cases e : Tm.isDay n with
    | false =>
      rw [e] at h
      refine ifT (c := true) rfl ?_
      exact ⟨_, rfl, small_le (by show 1 ≤ 5000; decide), fun p hp => h.at (Same.refl H) hp⟩
    | true =>
      rw [e] at h
      refine ifF (c := false) rfl ?_
      have c := isDay_iff.mp e
      refine ⟨small_le (by decide), fun p hp => ?_⟩
      have s1 : Same H (upd H p (.lst [.int 0])) := Same.new hp
      generalize e1 : upd H p (.lst [.int 0]) = H1 at *
      have hp1 : H1 p = some (.lst [.int 0]) := by rw [← e1]; exact upd_same
      refine ⟨_, rfl, n, rfl, c, fun q hq => ?_⟩
      have s2 : Same H1 (upd H1 q (.lst ((dateL n).map V.int))) := Same.new hq
      generalize e2 : upd H1 q (.lst ((dateL n).map V.int)) = H2 at *
      have hq2 : H2 q = some (.lst ((dateL n).map V.int)) := by rw [← e2]; exact upd_same
      refine ⟨p, q, _, _, rfl, rfl, s2 _ _ hp1, hq2, small_le (by show 4 ≤ 5000; decide), fun r hr => ?_⟩
      have s3 : Same H2 (upd H2 r (.lst ([.int 0] ++ (dateL n).map V.int))) := Same.new hr
      generalize e3 : upd H2 r (.lst ([.int 0] ++ (dateL n).map V.int)) = H3 at *
      have hr3 : H3 r = some (.lst ([.int 0] ++ (dateL n).map V.int)) := by rw [← e3]; exact upd_same
      refine ⟨_, rfl, _, rfl, trivial, small_le (by show 1 ≤ 5000; decide), fun t ht => ?_⟩
      have s4 : Same H3 (upd H3 t (.lst [.int (wdM n)])) := Same.new ht
      generalize e4 : upd H3 t (.lst [.int (wdM n)]) = H4 at *
      have ht4 : H4 t = some (.lst [.int (wdM n)]) := by rw [← e4]; exact upd_same
      refine ⟨r, t, _, _, rfl, rfl, s4 _ _ hr3, ht4, small_le (by show 5 ≤ 5000; decide), fun u hu => ?_⟩
      have s5 : Same H4 (upd H4 u (.lst ([.int 0] ++ (dateL n).map V.int ++ [.int (wdM n)]))) := Same.new hu
      generalize e5 : upd H4 u (.lst ([.int 0] ++ (dateL n).map V.int ++ [.int (wdM n)])) = H5 at *
      have hu5 : H5 u = some (.lst ([.int 0] ++ (dateL n).map V.int ++ [.int (wdM n)])) := by rw [← e5]; exact upd_same
      refine ⟨_, rfl, n, rfl, c, fun v hv => ?_⟩
      have s6 : Same H5 (upd H5 v (.lst ((weekL n).map V.int))) := Same.new hv
      generalize e6 : upd H5 v (.lst ((weekL n).map V.int)) = H6 at *
      have hv6 : H6 v = some (.lst ((weekL n).map V.int)) := by rw [← e6]; exact upd_same
      refine ⟨u, v, _, _, rfl, rfl, s6 _ _ hu5, hv6, small_le (by show 7 ≤ 5000; decide), fun x hx => ?_⟩
      exact h.at (s1.trans (s2.trans (s3.trans (s4.trans (s5.trans s6))))) hx
abbrev s_answer_offset : Stmt := topS 90
theorem sc_answer_offset : FnScope ["kept", "t"] ["kept", "t"] (defScope s_answer_offset) := ⟨rfl, rfl, rfl, by decide +kernel, rfl, by decide +kernel, by decide +kernel⟩
def sp_answer_offset (cc cr cl ck : Addr) : Sp := fun vs H Q _ => ∃ (p : Addr) (c : Ck) (t : Int), vs = [.ref p, .int t] ∧ KepAt cc cr cl ck H p c ∧ c.Ok ∧ giveL H Q (ansOffset c.to t)
theorem ok_answer_offset (B : Blt K mg tbl) (Z : Clz K C_Change C_Rule C_Clock) (Y : Kez K C_Kept) (T : Txd K mg "answer_offset" s_answer_offset) (D_is_moment : Df P w K mg base "is_moment" ["t"] 2 (sp_is_moment)) (D_offset_at : Df P w K mg base "offset_at" ["clock", "t"] 7 (sp_offset_at C_Change C_Rule C_Clock)) : Df P w K mg base "answer_offset" ["kept", "t"] 8 (sp_answer_offset C_Change C_Rule C_Clock C_Kept) := by
  obtain ⟨f, fd, F, hm⟩ := T.ex
  refine ⟨f, fd, F.ok sc_answer_offset (fun vs H Q E h => ?_) (fun cdv A outer s H vs Q E hr h => ⟨_, (pss_cons (ps_if (pt_not (pt_val (pe_callD D_is_moment hr (by decide) (by rfl) (pa_cons (pv 1) pa_nil))))
     (pss_one (ps_ret (pe_lst (pa_cons (pe_un un_neg pe_int) pa_nil))))
     pss_nil)
    (pss_one (ps_ret (pe_lst (pa_cons pe_int (pa_cons (pe_callD D_offset_at hr (by decide) (by rfl) (pa_cons (pe_fld (pv 0) rfl) (pa_cons (pv 1) pa_nil))) pa_nil)))))), ?_⟩), hm, F.kp, F.binds fun _ _ _ _ _ _ us hl => match us, hl with | [_, _], _ => rfl⟩
  · obtain ⟨p, c, t, rfl, _⟩ := h
    rfl
  · obtain ⟨p, c, t, rfl, ⟨dx, a, rest, hp, hrl, hc⟩, ok, h⟩ := h
    unfold ansOffset at h
    refine ⟨_, rfl, _, rfl, trivial, _, rfl, ?_⟩
    cases e : Tm.isMoment t with
    | false =>
      rw [e] at h
      refine ifT (c := true) rfl ?_
      exact ⟨_, rfl, small_le (by show 1 ≤ 5000; decide), fun p hp => h.at (Same.refl H) hp⟩
    | true =>
      rw [e] at h
      refine ifF (c := false) rfl ?_
      refine ⟨_, rfl, p, _, dx, _, _, rfl, hp, Y.cl, Y.c1, keF_clock _ _, _, rfl, a, c, t, rfl, hc, ok, e, small_le (by show 2 ≤ 5000; decide), fun q hq => h.at (Same.refl H) hq⟩
abbrev s_answer_read : Stmt := topS 91
theorem sc_answer_read : FnScope ["kept", "t", "shown", "second"] ["kept", "t"] (defScope s_answer_read) := ⟨rfl, rfl, rfl, by decide +kernel, rfl, by decide +kernel, by decide +kernel⟩
def sp_answer_read (cc cr cl ck : Addr) : Sp := fun vs H Q _ => ∃ (p : Addr) (c : Ck) (t : Int), vs = [.ref p, .int t] ∧ KepAt cc cr cl ck H p c ∧ c.Ok ∧ giveL H Q (ansRead c.to t)
theorem ok_answer_read (B : Blt K mg tbl) (Z : Clz K C_Change C_Rule C_Clock) (Y : Kez K C_Kept) (T : Txd K mg "answer_read" s_answer_read) (D_is_moment : Df P w K mg base "is_moment" ["t"] 2 (sp_is_moment)) (D_offset_at : Df P w K mg base "offset_at" ["clock", "t"] 7 (sp_offset_at C_Change C_Rule C_Clock)) (D_date_of : Df P w K mg base "date_of" ["n"] 3 (sp_date_of)) : Df P w K mg base "answer_read" ["kept", "t"] 8 (sp_answer_read C_Change C_Rule C_Clock C_Kept) := by
  obtain ⟨f, fd, F, hm⟩ := T.ex
  refine ⟨f, fd, F.ok sc_answer_read (fun vs H Q E h => ?_) (fun cdv A outer s H vs Q E hr h => ⟨_, (pss_cons (ps_if (pt_not (pt_val (pe_callD D_is_moment hr (by decide) (by rfl) (pa_cons (pv 1) pa_nil))))
     (pss_one (ps_ret (pe_lst (pa_cons (pe_un un_neg pe_int) pa_nil))))
     pss_nil)
    (pss_cons (ps_set (i := 2) sc_answer_read.nd rfl (Or.inl rfl) (pe_op op_add (pv 1) (pe_callD D_offset_at hr (by decide) (by rfl) (pa_cons (pe_fld (pv 0) rfl) (pa_cons (pv 1) pa_nil)))))
    (pss_cons (ps_if (pt_not (pt_val (pe_callD D_is_moment hr (by decide) (by rfl) (pa_cons (pv 2) pa_nil))))
     (pss_one (ps_ret (pe_lst (pa_cons (pe_un un_neg pe_int) pa_nil))))
     pss_nil)
    (pss_cons (ps_set (i := 3) sc_answer_read.nd rfl (Or.inl rfl) (pe_op op_mod (pv 2) (pe_gc (by rfl) B.DAY_SECONDS)))
    (pss_one (ps_ret (pe_op op_cat (pe_op op_cat (pe_lst (pa_cons pe_int pa_nil)) (pe_callD D_date_of hr (by decide) (by rfl) (pa_cons (pe_op op_fdiv (pv 2) (pe_gc (by rfl) B.DAY_SECONDS)) pa_nil))) (pe_lst (pa_cons (pe_op op_fdiv (pv 3) pe_int) (pa_cons (pe_op op_mod (pe_op op_fdiv (pv 3) pe_int) pe_int) (pa_cons (pe_op op_mod (pv 3) pe_int) pa_nil))))))))))), ?_⟩), hm, F.kp, F.binds fun _ _ _ _ _ _ us hl => match us, hl with | [_, _], _ => rfl⟩
  · obtain ⟨p, c, t, rfl, _⟩ := h
    rfl
  · obtain ⟨p, c, t, rfl, ⟨dx, a, rest, hp, hrl, hc⟩, ok, h⟩ := h
    unfold ansRead at h
    refine ⟨_, rfl, _, rfl, trivial, _, rfl, ?_⟩
    cases e : Tm.isMoment t with
    | false =>
      rw [e] at h
      refine ifT (c := true) rfl ?_
      exact ⟨_, rfl, small_le (by show 1 ≤ 5000; decide), fun p hp => h.at (Same.refl H) hp⟩
    | true =>
      rw [e] at h
      refine ifF (c := false) rfl ?_
      refine ⟨_, rfl, _, rfl, p, _, dx, _, _, rfl, hp, Y.cl, Y.c1, keF_clock _ _, _, rfl, a, c, t, rfl, hc, ok, e, _, _, rfl, rfl, ?_⟩
      refine ⟨_, rfl, _, rfl, trivial, _, rfl, ?_⟩
      cases e2 : Tm.isMoment (t + Tm.offset c.to t) with
      | false =>
        rw [e2] at h
        refine ifT (c := true) rfl ?_
        exact ⟨_, rfl, small_le (by show 1 ≤ 5000; decide), fun p hp => h.at (Same.refl H) hp⟩
      | true =>
        rw [e2] at h
        refine ifF (c := false) rfl ?_
        have cu : Cal ((t + Tm.offset c.to t) / 86400) := by
          rw [isMoment_eq] at e2
          exact isDay_iff.mp e2
        refine ⟨_, rfl, _, _, rfl, rfl, (by show (0 : Int) < 86400; decide), small_le (by show 1 ≤ 5000; decide), fun p hp => ?_⟩
        have s1 : Same H (upd H p (.lst [.int 0])) := Same.new hp
        generalize e1 : upd H p (.lst [.int 0]) = H1 at *
        have hp1 : H1 p = some (.lst [.int 0]) := by rw [← e1]; exact upd_same
        refine ⟨_, rfl, _, _, rfl, rfl, ⟨by decide, by decide⟩, _, rfl, cu, fun q hq => ?_⟩
        have s2 : Same H1 (upd H1 q (.lst ((dateL ((t + Tm.offset c.to t) / 86400)).map V.int))) := Same.new hq
        generalize e2 : upd H1 q (.lst ((dateL ((t + Tm.offset c.to t) / 86400)).map V.int)) = H2 at *
        have hq2 : H2 q = some (.lst ((dateL ((t + Tm.offset c.to t) / 86400)).map V.int)) := by rw [← e2]; exact upd_same
        refine ⟨p, q, _, _, rfl, rfl, s2 _ _ hp1, hq2, small_le (by show 4 ≤ 5000; decide), fun r hr => ?_⟩
        have s3 : Same H2 (upd H2 r (.lst ([.int 0] ++ (dateL ((t + Tm.offset c.to t) / 86400)).map V.int))) := Same.new hr
        generalize e3 : upd H2 r (.lst ([.int 0] ++ (dateL ((t + Tm.offset c.to t) / 86400)).map V.int)) = H3 at *
        have hr3 : H3 r = some (.lst ([.int 0] ++ (dateL ((t + Tm.offset c.to t) / 86400)).map V.int)) := by rw [← e3]; exact upd_same
        refine ⟨_, rfl, _, _, rfl, rfl, ⟨by decide, by decide⟩, _, rfl, _, _, rfl, rfl, ⟨by decide, by decide⟩, _, _, rfl, rfl, (by show (0 : Int) < 60; decide), _, rfl, _, _, rfl, rfl, (by show (0 : Int) < 60; decide), small_le (by show 3 ≤ 5000; decide), fun x1 ht => ?_⟩
        have s4 : Same H3 (upd H3 x1 (.lst [.int ((t + Tm.offset c.to t) % 86400 / 3600), .int ((t + Tm.offset c.to t) % 86400 / 60 % 60), .int ((t + Tm.offset c.to t) % 86400 % 60)])) := Same.new ht
        refine ⟨r, x1, _, _, rfl, rfl, s4 _ _ hr3, upd_same, small_le (by show 7 ≤ 5000; decide), fun x hx => ?_⟩
        exact h.at (s1.trans (s2.trans (s3.trans s4))) hx
end
end Cc
set_option Elab.async false
set_option maxRecDepth 100000
set_option maxHeartbeats 2000000
set_option linter.unusedSimpArgs false
set_option linter.unusedVariables false
namespace Cc
open PySem PySem.Spec PyProof.Rows L2
section
variable {P : Program} {w : World} {K : PySem.W.Frag} {mg : Str → Option Value} {base : Heap} {tbl C_Change C_Rule C_Clock C_Kept : Addr}
theorem whens_len {c : Ck} (ok : c.Ok) (r : Tm.Read) : (Tm.whens c.to r).length ≤ 100 := by
  unfold Tm.whens
  rw [List.length_mergeSort]
  refine Nat.le_trans (List.length_filter_le _ _) ?_
  rw [List.length_map, offs_eq]
  have : ∀ (n : Nat) (l : List Int), l.length ≤ n → l.eraseDups.length ≤ l.length := by
    intro n
    induction n with
    | zero =>
      intro l h
      cases l with
      | nil => simp
      | cons a l => simp at h
    | succ n ih =>
      intro l h
      cases l with
      | nil => simp
      | cons a l =>
        rw [List.eraseDups_cons, List.length_cons, List.length_cons]
        have h2 := List.length_filter_le (fun b => !b == a) l
        have := ih (l.filter fun b => !b == a) (by simp at h; omega)
        omega
  exact Nat.le_trans (this _ _ (Nat.le_refl _)) ok.offs.1
abbrev s_answer_when : Stmt := topS 92
theorem sc_answer_when : FnScope ["kept", "numbers", "y", "m", "d", "h", "minute", "s", "shown", "moments"] ["kept", "numbers"] (defScope s_answer_when) := ⟨rfl, rfl, rfl, by decide +kernel, rfl, by decide +kernel, by decide +kernel⟩
def sp_answer_when (K : PySem.W.Frag) (cc cr cl ck : Addr) : Sp := fun vs H Q _ => ∃ (p a : Addr) (c : Ck) (y m d h mi s : Int), vs = [.ref p, .ref a] ∧ KepAt cc cr cl ck H p c ∧ c.Ok ∧ SqL K H a ([y, m, d, h, mi, s].map V.int) ∧ giveL H Q (ansWhen c.to y m d h mi s)
theorem ok_answer_when (B : Blt K mg tbl) (Z : Clz K C_Change C_Rule C_Clock) (Y : Kez K C_Kept) (T : Txd K mg "answer_when" s_answer_when) (D_moments_of : Df P w K mg base "moments_of" ["clock", "shown"] 8 (sp_moments_of C_Change C_Rule C_Clock)) (D_is_date : Df P w K mg base "is_date" ["y", "m", "d"] 4 (sp_is_date)) (D_day_number : Df P w K mg base "day_number" ["y", "m", "d"] 3 (sp_day_number)) : Df P w K mg base "answer_when" ["kept", "numbers"] 9 (sp_answer_when K C_Change C_Rule C_Clock C_Kept) := by
  obtain ⟨f, fd, F, hm⟩ := T.ex
  refine ⟨f, fd, F.ok sc_answer_when (fun vs H Q E h => ?_) (fun cdv A outer s H vs Q E hr h => ⟨_, (pss_cons (ps_set (i := 2) sc_answer_when.nd rfl (Or.inl rfl) (pe_ix ix_list (pv 1) pe_int (fun _ _ => rfl)))
    (pss_cons (ps_set (i := 3) sc_answer_when.nd rfl (Or.inl rfl) (pe_ix ix_list (pv 1) pe_int (fun _ _ => rfl)))
    (pss_cons (ps_set (i := 4) sc_answer_when.nd rfl (Or.inl rfl) (pe_ix ix_list (pv 1) pe_int (fun _ _ => rfl)))
    (pss_cons (ps_set (i := 5) sc_answer_when.nd rfl (Or.inl rfl) (pe_ix ix_list (pv 1) pe_int (fun _ _ => rfl)))
    (pss_cons (ps_set (i := 6) sc_answer_when.nd rfl (Or.inl rfl) (pe_ix ix_list (pv 1) pe_int (fun _ _ => rfl)))
    (pss_cons (ps_set (i := 7) sc_answer_when.nd rfl (Or.inl rfl) (pe_ix ix_list (pv 1) pe_int (fun _ _ => rfl)))
    (pss_cons (ps_if (pt_not (PW.pt (pw_and (pt_val (pe_callD D_is_date hr (by decide) (by rfl) (pa_cons (pv 2) (pa_cons (pv 3) (pa_cons (pv 4) pa_nil))))) (pw_and (pt_chain op_le op_le pe_int (pv 5) pe_int) (pw_and (pt_chain op_le op_le pe_int (pv 6) pe_int) (pw_and1 (pt_chain op_le op_le pe_int (pv 7) pe_int)))))))
     (pss_one (ps_ret (pe_lst (pa_cons (pe_un un_neg pe_int) pa_nil))))
     pss_nil)
    (pss_cons (ps_set (i := 8) sc_answer_when.nd rfl (Or.inl rfl) (pe_op op_add (pe_op op_add (pe_op op_add (pe_op op_mul (pe_callD D_day_number hr (by decide) (by rfl) (pa_cons (pv 2) (pa_cons (pv 3) (pa_cons (pv 4) pa_nil)))) (pe_gc (by rfl) B.DAY_SECONDS)) (pe_op op_mul (pv 5) pe_int)) (pe_op op_mul (pv 6) pe_int)) (pv 7)))
    (pss_cons (ps_set (i := 9) sc_answer_when.nd rfl (Or.inl rfl) (pe_callD D_moments_of hr (by decide) (by rfl) (pa_cons (pe_fld (pv 0) rfl) (pa_cons (pv 8) pa_nil))))
    (pss_one (ps_ret (pe_op op_cat (pe_lst (pa_cons (pe_callB call_len_seq (by rfl) B.b_len (by decide +kernel) (pa_cons (pv 9) pa_nil)) pa_nil)) (pv 9))))))))))))), ?_⟩), hm, F.kp, F.binds fun _ _ _ _ _ _ us hl => match us, hl with | [_, _], _ => rfl⟩
  · obtain ⟨p, a, c, y, m, d, h', mi, s, rfl, _⟩ := h
    rfl
  · obtain ⟨p, b, c, y, m, d, hh, mi, se, rfl, ⟨dx, a, rest, hp, hrl, hc⟩, ok, hs, h⟩ := h
    refine ⟨_, rfl, b, _, _, _, rfl, rfl, hs, rfl, ?_⟩
    refine ⟨_, rfl, b, _, _, _, rfl, rfl, hs, rfl, ?_⟩
    refine ⟨_, rfl, b, _, _, _, rfl, rfl, hs, rfl, ?_⟩
    refine ⟨_, rfl, b, _, _, _, rfl, rfl, hs, rfl, ?_⟩
    refine ⟨_, rfl, b, _, _, _, rfl, rfl, hs, rfl, ?_⟩
    refine ⟨_, rfl, b, _, _, _, rfl, rfl, hs, rfl, ?_⟩
    simp only [sp_is_date, sp_day_number, hp, Y.cl, Y.c1, keF_clock, cxOf, tFld, HO.ins.injEq, tSeq, tLst, tTup, tNext, tBreak, tCont, tRet, tRetN, tDrop, tAsg, gName, tAug, ipI, tIfS, tIf, tTest, tChain, tB, tAnd, tOr, tNot, tAndV, tOrV, tNotV, tOp, tUn, rU, tVar, tC, rI, rI0, rEq, rNe, CDiv, CMul, tCall, tCB, tCons, tNil, sp1, sp2, sp3, sp4, L2.start, scal, List.map, List.length, List.replicate, List.append, List.cons_append, List.nil_append, List.append_nil, List.set_cons_zero, List.set_cons_succ, List.getElem?_cons_zero, List.getElem?_cons_succ, Option.some.injEq, V.int.injEq, V.bl.injEq, V.ref.injEq, List.cons.injEq, and_assoc, exists_and_left, exists_eq_left', exists_eq_left, and_true, true_and, decide_eq_true_eq, Bool.not_eq_true', decide_eq_false_iff_not, if_true, if_false, reduceCtorEq, decide_false, decide_true, Bool.false_eq_true, Bool.true_eq_false, Bool.not_true, Bool.not_false, ite_true, ite_false, Int.reduceLT, Int.reduceLE, Int.reduceNeg, Int.reducePow, or_true, true_or, not_true_eq_false, not_false_eq_true, exists_eq, exists_eq']
    have bad : (isDateM y m d && hmsOk hh mi se) = false → ∀ p, H p = none → Q (.ref p) (upd H p (.lst [.int (-1)])) := by
      intro e p hp
      unfold ansWhen at h
      rw [e] at h
      exact h.at (Same.refl H) hp
    have hm : ∀ z : Bool, hmsOk hh mi se = z → _ := fun z e => e
    unfold hmsOk at bad
    cases e : isDateM y m d with
    | false =>
      rw [e] at bad
      simp only [cxOf, tFld, HO.ins.injEq, tSeq, tLst, tTup, tNext, tBreak, tCont, tRet, tRetN, tDrop, tAsg, gName, tAug, ipI, tIfS, tIf, tTest, tChain, tB, tAnd, tOr, tNot, tAndV, tOrV, tNotV, tOp, tUn, rU, tVar, tC, rI, rI0, rEq, rNe, CDiv, CMul, tCall, tCB, tCons, tNil, sp1, sp2, sp3, sp4, L2.start, scal, List.map, List.length, List.replicate, List.append, List.cons_append, List.nil_append, List.append_nil, List.set_cons_zero, List.set_cons_succ, List.getElem?_cons_zero, List.getElem?_cons_succ, Option.some.injEq, V.int.injEq, V.bl.injEq, V.ref.injEq, List.cons.injEq, and_assoc, exists_and_left, exists_eq_left', exists_eq_left, and_true, true_and, decide_eq_true_eq, Bool.not_eq_true', decide_eq_false_iff_not, if_true, if_false, reduceCtorEq, decide_false, decide_true, Bool.false_eq_true, Bool.true_eq_false, Bool.not_true, Bool.not_false, ite_true, ite_false, Int.reduceLT, Int.reduceLE, Int.reduceNeg, Int.reducePow, or_true, true_or, not_true_eq_false, not_false_eq_true, exists_eq, exists_eq']
      exact ⟨small_le (by show 1 ≤ 5000; decide), bad rfl⟩
    | true =>
      rw [e, Bool.true_and] at bad
      simp only [cxOf, tFld, HO.ins.injEq, tSeq, tLst, tTup, tNext, tBreak, tCont, tRet, tRetN, tDrop, tAsg, gName, tAug, ipI, tIfS, tIf, tTest, tChain, tB, tAnd, tOr, tNot, tAndV, tOrV, tNotV, tOp, tUn, rU, tVar, tC, rI, rI0, rEq, rNe, CDiv, CMul, tCall, tCB, tCons, tNil, sp1, sp2, sp3, sp4, L2.start, scal, List.map, List.length, List.replicate, List.append, List.cons_append, List.nil_append, List.append_nil, List.set_cons_zero, List.set_cons_succ, List.getElem?_cons_zero, List.getElem?_cons_succ, Option.some.injEq, V.int.injEq, V.bl.injEq, V.ref.injEq, List.cons.injEq, and_assoc, exists_and_left, exists_eq_left', exists_eq_left, and_true, true_and, decide_eq_true_eq, Bool.not_eq_true', decide_eq_false_iff_not, if_true, if_false, reduceCtorEq, decide_false, decide_true, Bool.false_eq_true, Bool.true_eq_false, Bool.not_true, Bool.not_false, ite_true, ite_false, Int.reduceLT, Int.reduceLE, Int.reduceNeg, Int.reducePow, or_true, true_or, not_true_eq_false, not_false_eq_true, exists_eq, exists_eq']
      have B2 : ¬ ((0 ≤ hh ∧ hh ≤ 23) ∧ (0 ≤ mi ∧ mi ≤ 59) ∧ 0 ≤ se ∧ se ≤ 59) → 1 ≤ sizeLine ∧ ∀ p, H p = none → Q (.ref p) (upd H p (.lst [.int (-1)])) := fun q => ⟨small_le (by show 1 ≤ 5000; decide), bad (decide_eq_false q)⟩
      split
      case isFalse => exact B2 (by omega)
      split
      case isFalse => exact B2 (by omega)
      split
      case isFalse => exact B2 (by omega)
      split
      case isFalse => exact B2 (by omega)
      split
      case isFalse => exact B2 (by omega)
      split
      case isTrue => exact B2 (by omega)
      have ho : hmsOk hh mi se = true := decide_eq_true (by omega)
      obtain ⟨_, ⟨m1, m2⟩, _, _⟩ := isDateM_iff.mp e
      refine ⟨m1, by omega, a, c, whenR y m d hh mi se, by rw [flat_when e ho], hc, ok, fun q H1 s1 nq hq => ?_⟩
      unfold ansWhen at h
      rw [e, ho] at h
      have wl := whens_len ok (whenR y m d hh mi se)
      refine ⟨q, rfl, _, .inl (SqL.of hq), small_le (by show 1 ≤ 5000; decide), fun r hr => ?_⟩
      have s2 : Same H1 (upd H1 r (.lst [.int (((Tm.whens c.to (whenR y m d hh mi se)).map V.int).length : Nat)])) := Same.new hr
      refine ⟨r, q, _, _, rfl, rfl, upd_same, s2 _ _ hq, ?_, fun t ht => ?_⟩
      · rw [List.length_map]
        exact small_le (by show 1 + _ ≤ 5000; omega)
      · have := h.at (s1.trans s2) ht
        rw [List.length_map]
        rw [List.length_map] at this
        exact this
abbrev s_answer_setclock : Stmt := topS 89
theorem sc_answer_setclock : FnScope ["kept", "numbers", "clock"] ["kept", "numbers"] (defScope s_answer_setclock) := ⟨rfl, rfl, rfl, by decide +kernel, rfl, by decide +kernel, by decide +kernel⟩
/-- the object's clock is another now -/
def setC (cc cr cl ck : Addr) (H H' : Hp) (p : Addr) (c : Ck) : Prop := (∀ dx a rest, H p = some (.ins ck dx (keF a rest)) → ∃ a', H' p = some (.ins ck dx (keF a' rest)) ∧ ClkAt cc cr cl (fresh H H') a' c) ∧ ∀ b o, b ≠ p → H b = some o → H' b = some o
def sp_answer_setclock (K : PySem.W.Frag) (cc cr cl ck : Addr) : Sp := fun vs H Q _ => ∃ (p a : Addr) (ns : List Int) (c0 : Ck), vs = [.ref p, .ref a] ∧ KepAt cc cr cl ck H p c0 ∧ SqL K H a (ns.map V.int) ∧ ns.length ≤ 1000 ∧ (Tm.clockOf ns = none → giveL H Q [-5]) ∧
  (∀ c : Ck, Tm.clockOf ns = some c.to → c.Ok → ∀ q H', H q = none → H' q = some (.lst [.int (c.changes.length : Nat)]) → setC cc cr cl ck H H' p c → Q (.ref q) H')
theorem ok_answer_setclock (B : Blt K mg tbl) (Z : Clz K C_Change C_Rule C_Clock) (Y : Kez K C_Kept) (T : Txd K mg "answer_setclock" s_answer_setclock) (D_clock_from : Df P w K mg base "clock_from" ["numbers"] 4 (sp_clock_from K C_Change C_Rule C_Clock)) : Df P w K mg base "answer_setclock" ["kept", "numbers"] 5 (sp_answer_setclock K C_Change C_Rule C_Clock C_Kept) := by
  obtain ⟨f, fd, F, hm⟩ := T.ex
  refine ⟨f, fd, F.ok sc_answer_setclock (fun vs H Q E h => ?_) (fun cdv A outer s H vs Q E hr h => ⟨_, (pss_cons (ps_set (i := 2) sc_answer_setclock.nd rfl (Or.inl rfl) (pe_callD D_clock_from hr (by decide) (by rfl) (pa_cons (pv 1) pa_nil)))
    (pss_cons (ps_if (pt_cmpR op_isN (pv 2) pe_non (nomark _))
     (pss_one (ps_ret (pe_lst (pa_cons (pe_un un_neg pe_int) pa_nil))))
     pss_nil)
    (pss_cons (ps_fld (pv 0) (pv 2) rfl)
    (pss_one (ps_ret (pe_lst (pa_cons (pe_callB call_len_seq (by rfl) B.b_len (by decide +kernel) (pa_cons (pe_fld (pv 2) rfl) pa_nil)) pa_nil))))))), ?_⟩), hm, F.kp, F.binds fun _ _ _ _ _ _ us hl => match us, hl with | [_, _], _ => rfl⟩
  · obtain ⟨p, a, ns, c, rfl, _⟩ := h
    rfl
  · obtain ⟨p, b, ns, c0, rfl, ⟨dx, a, rest, hp, hrl, hc⟩, hs, hl, hN, hS⟩ := h
    refine ⟨_, rfl, b, ns, rfl, hs, hl, fun e H' s' => ?_, fun c e ok x H1 s1 nx hx => ?_⟩
    · refine ⟨_, rfl, rfl, _, rfl, ifT (c := true) rfl ?_⟩
      exact ⟨_, rfl, small_le (by show 1 ≤ 5000; decide), fun q hq => (hN e).at s' hq⟩
    · refine ⟨_, rfl, rfl, _, rfl, ifF (c := false) rfl ?_⟩
      have hp1 := s1 _ _ hp
      refine ⟨_, rfl, _, rfl, p, _, dx, _, rfl, hp1, Y.cl, Y.c1, ?_, ?_⟩
      · show rest.length + 1 < 1000
        omega
      rw [keF_put]
      have ef : fresh H (upd H1 p (.ins C_Kept dx (keF x rest))) = fresh H H1 := by
        funext b
        unfold fresh
        by_cases z : b = p
        · rw [z, hp]
          rfl
        · rw [upd_ne z]
      have hx2 : ClkAt C_Change C_Rule C_Clock (fresh H (upd H1 p (.ins C_Kept dx (keF x rest)))) x c := by rw [ef]; exact hx
      have hp2 : upd H1 p (.ins C_Kept dx (keF x rest)) p = some (.ins C_Kept dx (keF x rest)) := upd_same
      have keep : ∀ b o, b ≠ p → H b = some o → upd H1 p (.ins C_Kept dx (keF x rest)) b = some o := fun b o nb e => by
        rw [upd_ne nb]
        exact s1 _ _ e
      have free : ∀ q, upd H1 p (.ins C_Kept dx (keF x rest)) q = none → H q = none := fun q hq => by
        by_cases z : q = p
        · rw [z, hp2] at hq
          cases hq
        · rw [upd_ne z] at hq
          exact s1.free hq
      generalize upd H1 p (.ins C_Kept dx (keF x rest)) = H2 at *
      have hx3 := hx2
      replace hx2 := hx2.same fresh_sub
      obtain ⟨dy, la, lr, hx2, ⟨as, hla, alen, _⟩, hlr⟩ := hx2
      refine ⟨_, rfl, x, _, dy, _, _, rfl, hx2, Z.ck, Z.ck2, ckF_changes _ _ _, la, _, rfl, .inl (SqL.of hla), small_le (by show 1 ≤ 5000; decide), fun q hq => ?_⟩
      have sq : Same H2 (upd H2 q (.lst [.int ((as.map V.ref).length : Nat)])) := Same.new hq
      refine hS c e ok q _ (free q hq) (by rw [upd_same, List.length_map, alen]) ⟨fun dx' a' rest' e' => ?_, fun b o nb eb => sq _ _ (keep b o nb eb)⟩
      rw [hp] at e'
      injection e' with e'
      injection e' with _ e1 e2
      injection e2 with _ e3
      subst e1 e3
      exact ⟨x, sq _ _ hp2, hx3.same (fresh_mono sq)⟩
end
end Cc
set_option Elab.async false
set_option maxRecDepth 100000
set_option maxHeartbeats 2000000
set_option linter.unusedSimpArgs false
set_option linter.unusedVariables false
namespace Cc
open PySem PySem.Spec PyProof.Rows L2
section
variable {P : Program} {w : World} {K : PySem.W.Frag} {mg : Str → Option Value} {base : Heap} {tbl : Addr}
/-! ## Months and spans -/
/-- what hands back a value and leaves all that stands -/
def giveV (H : Hp) (Q : VK) (v : V) : Prop := ∀ H', Same H H' → Q v H'
abbrev s_month_number : Stmt := topS 19
theorem sc_month_number : FnScope ["n", "date"] ["n"] (defScope s_month_number) := ⟨rfl, rfl, rfl, by decide +kernel, rfl, by decide +kernel, by decide +kernel⟩
def sp_month_number : Sp := fun vs H Q _ => ∃ n : Int, vs = [.int n] ∧ Cal n ∧ giveV H Q (.int (monNo n))
theorem ok_month_number (B : Blt K mg tbl) (T : Txd K mg "month_number" s_month_number) (D_date_of : Df P w K mg base "date_of" ["n"] 3 (sp_date_of)) : Df P w K mg base "month_number" ["n"] 4 (sp_month_number) := by
  obtain ⟨f, fd, F, hm⟩ := T.ex
  refine ⟨f, fd, F.ok sc_month_number (fun vs H Q E h => ?_) (fun cdv A outer s H vs Q E hr h => ⟨_, (pss_cons (ps_set (i := 1) sc_month_number.nd rfl (Or.inl rfl) (pe_callD D_date_of hr (by decide) (by rfl) (pa_cons (pv 0) pa_nil)))
    (pss_one (ps_ret (pe_op op_sub (pe_op op_add (pe_op op_mul (pe_ix ix_list (pv 1) pe_int (fun _ _ => rfl)) pe_int) (pe_ix ix_list (pv 1) pe_int (fun _ _ => rfl))) pe_int)))), ?_⟩), hm, F.kp, F.binds fun _ _ _ _ _ _ us hl => match us, hl with | [_], _ => rfl⟩
  · obtain ⟨n, rfl, _⟩ := h
    rfl
  · obtain ⟨n, rfl, c, h⟩ := h
    refine ⟨_, rfl, n, rfl, c, fun p hp => ?_⟩
    refine ⟨_, rfl, p, _, _, _, rfl, rfl, SqL.of upd_same, rfl, _, _, rfl, rfl, .inr ⟨by decide, by decide⟩, _, rfl, p, _, _, _, rfl, rfl, SqL.of upd_same, rfl, _, _, rfl, rfl, _, _, rfl, rfl, ?_⟩
    exact h _ (Same.new hp)
abbrev s_is_month : Stmt := topS 20
theorem sc_is_month : FnScope ["number"] ["number"] (defScope s_is_month) := ⟨rfl, rfl, rfl, by decide +kernel, rfl, by decide +kernel, by decide +kernel⟩
def sp_is_month : Sp := sp1 (fun _ => True) fun q => .bl (isMon q)
theorem ok_is_month (B : Blt K mg tbl) (T : Txd K mg "is_month" s_is_month)  : Df P w K mg base "is_month" ["number"] 1 (sp_is_month) := by
  obtain ⟨f, fd, F, hm⟩ := T.ex
  refine ⟨f, fd, F.ok sc_is_month (fun vs H Q E h => ?_) (fun cdv A outer s H vs Q E hr h => ⟨_, (pss_one (ps_ret (pe_chain op_le op_le pe_int (pe_op op_fdiv (pv 0) pe_int) (pe_gc (by rfl) B.LAST_YEAR)))), ?_⟩), hm, F.kp, F.binds fun _ _ _ _ _ _ us hl => match us, hl with | [_], _ => rfl⟩
  · obtain ⟨n, rfl, _⟩ := h
    rfl
  · obtain ⟨n, rfl, _, h⟩ := h
    simp only [cxOf, tFld, HO.ins.injEq, tSeq, tLst, tTup, tNext, tBreak, tCont, tRet, tRetN, tDrop, tAsg, gName, tAug, ipI, tIfS, tIf, tTest, tChain, tB, tAnd, tOr, tNot, tAndV, tOrV, tNotV, tOp, tUn, rU, tVar, tC, rI, rI0, rEq, rNe, CDiv, CMul, tCall, tCB, tCons, tNil, sp1, sp2, sp3, sp4, L2.start, scal, List.map, List.length, List.replicate, List.append, List.cons_append, List.nil_append, List.append_nil, List.set_cons_zero, List.set_cons_succ, List.getElem?_cons_zero, List.getElem?_cons_succ, Option.some.injEq, V.int.injEq, V.bl.injEq, V.ref.injEq, List.cons.injEq, and_assoc, exists_and_left, exists_eq_left', exists_eq_left, and_true, true_and, decide_eq_true_eq, Bool.not_eq_true', decide_eq_false_iff_not, if_true, if_false, reduceCtorEq, decide_false, decide_true, Bool.false_eq_true, Bool.true_eq_false, Bool.not_true, Bool.not_false, ite_true, ite_false, Int.reduceLT, Int.reduceLE, Int.reduceNeg, Int.reducePow, or_true, true_or, not_true_eq_false, not_false_eq_true, exists_eq, exists_eq']
    replace h : Q (.bl (decide (1 ≤ n / 12 ∧ n / 12 ≤ 9999))) H := h
    by_cases c1 : 1 ≤ n / 12
    · rw [if_pos c1]
      by_cases c2 : n / 12 ≤ 9999
      · rw [decide_eq_true ⟨c1, c2⟩] at h
        rw [decide_eq_true c2]
        exact h
      · rw [decide_eq_false (fun q => c2 q.2)] at h
        rw [decide_eq_false c2]
        exact h
    · rw [if_neg c1]
      rw [decide_eq_false (fun q => c1 q.1)] at h
      exact h
abbrev s_month_first : Stmt := topS 21
theorem sc_month_first : FnScope ["number"] ["number"] (defScope s_month_first) := ⟨rfl, rfl, rfl, by decide +kernel, rfl, by decide +kernel, by decide +kernel⟩
def sp_month_first : Sp := sp1 (fun _ => True) fun q => .int (mfst q)
theorem ok_month_first (B : Blt K mg tbl) (T : Txd K mg "month_first" s_month_first) (D_day_number : Df P w K mg base "day_number" ["y", "m", "d"] 3 (sp_day_number)) : Df P w K mg base "month_first" ["number"] 4 (sp_month_first) := by
  obtain ⟨f, fd, F, hm⟩ := T.ex
  refine ⟨f, fd, F.ok sc_month_first (fun vs H Q E h => ?_) (fun cdv A outer s H vs Q E hr h => ⟨_, (pss_one (ps_ret (pe_callD D_day_number hr (by decide) (by rfl) (pa_cons (pe_op op_fdiv (pv 0) pe_int) (pa_cons (pe_op op_add (pe_op op_mod (pv 0) pe_int) pe_int) (pa_cons pe_int pa_nil)))))), ?_⟩), hm, F.kp, F.binds fun _ _ _ _ _ _ us hl => match us, hl with | [_], _ => rfl⟩
  · obtain ⟨n, rfl, _⟩ := h
    rfl
  · obtain ⟨n, rfl, _, h⟩ := h
    simp only [sp_day_number, cxOf, tFld, HO.ins.injEq, tSeq, tLst, tTup, tNext, tBreak, tCont, tRet, tRetN, tDrop, tAsg, gName, tAug, ipI, tIfS, tIf, tTest, tChain, tB, tAnd, tOr, tNot, tAndV, tOrV, tNotV, tOp, tUn, rU, tVar, tC, rI, rI0, rEq, rNe, CDiv, CMul, tCall, tCB, tCons, tNil, sp1, sp2, sp3, sp4, L2.start, scal, List.map, List.length, List.replicate, List.append, List.cons_append, List.nil_append, List.append_nil, List.set_cons_zero, List.set_cons_succ, List.getElem?_cons_zero, List.getElem?_cons_succ, Option.some.injEq, V.int.injEq, V.bl.injEq, V.ref.injEq, List.cons.injEq, and_assoc, exists_and_left, exists_eq_left', exists_eq_left, and_true, true_and, decide_eq_true_eq, Bool.not_eq_true', decide_eq_false_iff_not, if_true, if_false, reduceCtorEq, decide_false, decide_true, Bool.false_eq_true, Bool.true_eq_false, Bool.not_true, Bool.not_false, ite_true, ite_false, Int.reduceLT, Int.reduceLE, Int.reduceNeg, Int.reducePow, or_true, true_or, not_true_eq_false, not_false_eq_true, exists_eq, exists_eq']
    exact ⟨by omega, by omega, h⟩
abbrev s_is_span : Stmt := topS 79
theorem sc_is_span : FnScope ["months", "days", "how"] ["months", "days", "how"] (defScope s_is_span) := ⟨rfl, rfl, rfl, by decide +kernel, rfl, by decide +kernel, by decide +kernel⟩
def spanOk (m d how : Int) : Bool := decide ((-120000 ≤ m ∧ m ≤ 120000) ∧ (-4000000 ≤ d ∧ d ≤ 4000000) ∧ 0 ≤ how ∧ how ≤ 2)
def sp_is_span : Sp := sp3 (fun _ _ _ => True) fun m d how => .bl (spanOk m d how)
theorem ok_is_span (B : Blt K mg tbl) (T : Txd K mg "is_span" s_is_span)  : Df P w K mg base "is_span" ["months", "days", "how"] 1 (sp_is_span) := by
  obtain ⟨f, fd, F, hm⟩ := T.ex
  refine ⟨f, fd, F.ok sc_is_span (fun vs H Q E h => ?_) (fun cdv A outer s H vs Q E hr h => ⟨_, (pss_cons (ps_if (pt_not (PW.pt (pw_and (pt_chain op_le op_le (pe_un un_neg (pe_gc (by rfl) B.MOST_MONTHS_spans)) (pv 0) (pe_gc (by rfl) B.MOST_MONTHS_spans)) (pw_and1 (pt_chain op_le op_le (pe_un un_neg (pe_gc (by rfl) B.MOST_DAYS_spans)) (pv 1) (pe_gc (by rfl) B.MOST_DAYS_spans))))))
     (pss_one (ps_ret pe_bl))
     pss_nil)
    (pss_one (ps_ret (pe_chain op_le op_le (pe_gc (by rfl) B.ELSE_LAST) (pv 2) (pe_gc (by rfl) B.ELSE_NONE))))), ?_⟩), hm, F.kp, F.binds fun _ _ _ _ _ _ us hl => match us, hl with | [_, _, _], _ => rfl⟩
  · obtain ⟨a, b, c, rfl, _⟩ := h
    rfl
  · obtain ⟨m, d, how, rfl, _, h⟩ := h
    simp only [cxOf, tFld, HO.ins.injEq, tSeq, tLst, tTup, tNext, tBreak, tCont, tRet, tRetN, tDrop, tAsg, gName, tAug, ipI, tIfS, tIf, tTest, tChain, tB, tAnd, tOr, tNot, tAndV, tOrV, tNotV, tOp, tUn, rU, tVar, tC, rI, rI0, rEq, rNe, CDiv, CMul, tCall, tCB, tCons, tNil, sp1, sp2, sp3, sp4, L2.start, scal, List.map, List.length, List.replicate, List.append, List.cons_append, List.nil_append, List.append_nil, List.set_cons_zero, List.set_cons_succ, List.getElem?_cons_zero, List.getElem?_cons_succ, Option.some.injEq, V.int.injEq, V.bl.injEq, V.ref.injEq, List.cons.injEq, and_assoc, exists_and_left, exists_eq_left', exists_eq_left, and_true, true_and, decide_eq_true_eq, Bool.not_eq_true', decide_eq_false_iff_not, if_true, if_false, reduceCtorEq, decide_false, decide_true, Bool.false_eq_true, Bool.true_eq_false, Bool.not_true, Bool.not_false, ite_true, ite_false, Int.reduceLT, Int.reduceLE, Int.reduceNeg, Int.reducePow, or_true, true_or, not_true_eq_false, not_false_eq_true, exists_eq, exists_eq']
    have key : ∀ b : Bool, spanOk m d how = b → Q (.bl b) H := fun b e => e ▸ h
    unfold spanOk at key
    split
    case isFalse => exact key _ (decide_eq_false (by omega))
    split
    case isFalse => exact key _ (decide_eq_false (by omega))
    split
    case isFalse => exact key _ (decide_eq_false (by omega))
    split
    case isTrue => exact key _ (decide_eq_false (by omega))
    split
    · refine key _ ?_
      rw [decide_eq_decide]
      omega
    · exact key _ (decide_eq_false (by omega))
abbrev s_add_months : Stmt := topS 80
theorem sc_add_months : FnScope ["n", "months", "how", "here", "there", "day", "behind"] ["n", "months", "how"] (defScope s_add_months) := ⟨rfl, rfl, rfl, by decide +kernel, rfl, by decide +kernel, by decide +kernel⟩
def sp_add_months : Sp := fun vs H Q _ => ∃ n k how : Int, vs = [.int n, .int k, .int how] ∧ Cal n ∧ giveV H Q (vO (addP n k how))
theorem ok_add_months (B : Blt K mg tbl) (T : Txd K mg "add_months" s_add_months) (D_month_number : Df P w K mg base "month_number" ["n"] 4 (sp_month_number)) (D_month_first : Df P w K mg base "month_first" ["number"] 4 (sp_month_first)) (D_is_month : Df P w K mg base "is_month" ["number"] 1 (sp_is_month)) : Df P w K mg base "add_months" ["n", "months", "how"] 5 (sp_add_months) := by
  obtain ⟨f, fd, F, hm⟩ := T.ex
  refine ⟨f, fd, F.ok sc_add_months (fun vs H Q E h => ?_) (fun cdv A outer s H vs Q E hr h => ⟨_, (pss_cons (ps_set (i := 3) sc_add_months.nd rfl (Or.inl rfl) (pe_callD D_month_number hr (by decide) (by rfl) (pa_cons (pv 0) pa_nil)))
    (pss_cons (ps_set (i := 4) sc_add_months.nd rfl (Or.inl rfl) (pe_op op_add (pv 3) (pv 1)))
    (pss_cons (ps_if (pt_not (pt_val (pe_callD D_is_month hr (by decide) (by rfl) (pa_cons (pv 4) pa_nil))))
     (pss_one (ps_ret pe_non))
     pss_nil)
    (pss_cons (ps_set (i := 5) sc_add_months.nd rfl (Or.inl rfl) (pe_op op_sub (pe_op op_add (pe_callD D_month_first hr (by decide) (by rfl) (pa_cons (pv 4) pa_nil)) (pv 0)) (pe_callD D_month_first hr (by decide) (by rfl) (pa_cons (pv 3) pa_nil))))
    (pss_cons (ps_set (i := 6) sc_add_months.nd rfl (Or.inl rfl) (pe_callD D_month_first hr (by decide) (by rfl) (pa_cons (pe_op op_add (pv 4) pe_int) pa_nil)))
    (pss_cons (ps_if (pt_cmpR op_lt (pv 5) (pv 6) (nomark _))
     (pss_one (ps_ret (pv 5)))
     pss_nil)
    (pss_cons (ps_if (pt_cmpR op_eq (pv 2) (pe_gc (by rfl) B.ELSE_LAST) (nomark _))
     (pss_one (ps_ret (pe_op op_sub (pv 6) pe_int)))
     pss_nil)
    (pss_cons (ps_if (pt_cmpR op_eq (pv 2) (pe_gc (by rfl) B.ELSE_NEXT) (nomark _))
     (pss_one (ps_ret (pv 6)))
     pss_nil)
    (pss_one (ps_ret pe_non)))))))))), ?_⟩), hm, F.kp, F.binds fun _ _ _ _ _ _ us hl => match us, hl with | [_, _, _], _ => rfl⟩
  · obtain ⟨n, k, how, rfl, _⟩ := h
    rfl
  · obtain ⟨n, k, how, rfl, c, h⟩ := h
    refine ⟨_, rfl, n, rfl, c, fun H1 s1 => ?_⟩
    have key : ∀ v : Option Int, addP n k how = v → Q (vO v) H1 := fun b e => e ▸ h H1 s1
    unfold addP at key
    simp only [sp_is_month, sp_month_first, cxOf, tFld, HO.ins.injEq, tSeq, tLst, tTup, tNext, tBreak, tCont, tRet, tRetN, tDrop, tAsg, gName, tAug, ipI, tIfS, tIf, tTest, tChain, tB, tAnd, tOr, tNot, tAndV, tOrV, tNotV, tOp, tUn, rU, tVar, tC, rI, rI0, rEq, rNe, CDiv, CMul, tCall, tCB, tCons, tNil, sp1, sp2, sp3, sp4, L2.start, scal, List.map, List.length, List.replicate, List.append, List.cons_append, List.nil_append, List.append_nil, List.set_cons_zero, List.set_cons_succ, List.getElem?_cons_zero, List.getElem?_cons_succ, Option.some.injEq, V.int.injEq, V.bl.injEq, V.ref.injEq, List.cons.injEq, and_assoc, exists_and_left, exists_eq_left', exists_eq_left, and_true, true_and, decide_eq_true_eq, Bool.not_eq_true', decide_eq_false_iff_not, if_true, if_false, reduceCtorEq, decide_false, decide_true, Bool.false_eq_true, Bool.true_eq_false, Bool.not_true, Bool.not_false, ite_true, ite_false, Int.reduceLT, Int.reduceLE, Int.reduceNeg, Int.reducePow, or_true, true_or, not_true_eq_false, not_false_eq_true, exists_eq, exists_eq']
    split
    · next c1 => exact key none (by rw [c1]; exact if_neg (by decide))
    · next c1 =>
      rw [Bool.not_eq_false] at c1
      rw [if_pos c1] at key
      split
      · next c2 => exact key _ (if_pos c2)
      · next c2 =>
        rw [if_neg c2] at key
        split
        · next c3 => exact key _ (if_pos c3)
        · next c3 =>
          rw [if_neg c3] at key
          split
          · next c4 => exact key _ (if_pos c4)
          · next c4 => exact key _ (if_neg c4)
def spanP (n k d how : Int) : Option Int := (addP n k how).bind fun a => if Tm.isDay (a + d) = true then some (a + d) else none
abbrev s_add_span : Stmt := topS 81
theorem sc_add_span : FnScope ["n", "months", "days", "how", "day"] ["n", "months", "days", "how"] (defScope s_add_span) := ⟨rfl, rfl, rfl, by decide +kernel, rfl, by decide +kernel, by decide +kernel⟩
def sp_add_span : Sp := fun vs H Q _ => ∃ n k d how : Int, vs = [.int n, .int k, .int d, .int how] ∧ Cal n ∧ giveV H Q (vO (spanP n k d how))
theorem ok_add_span (B : Blt K mg tbl) (T : Txd K mg "add_span" s_add_span) (D_add_months : Df P w K mg base "add_months" ["n", "months", "how"] 5 (sp_add_months)) (D_is_day : Df P w K mg base "is_day" ["n"] 1 (sp_is_day)) : Df P w K mg base "add_span" ["n", "months", "days", "how"] 6 (sp_add_span) := by
  obtain ⟨f, fd, F, hm⟩ := T.ex
  refine ⟨f, fd, F.ok sc_add_span (fun vs H Q E h => ?_) (fun cdv A outer s H vs Q E hr h => ⟨_, (pss_cons (ps_set (i := 4) sc_add_span.nd rfl (Or.inl rfl) (pe_callD D_add_months hr (by decide) (by rfl) (pa_cons (pv 0) (pa_cons (pv 1) (pa_cons (pv 3) pa_nil)))))
    (pss_cons (ps_if (PW.pt (pw_or (pt_cmpR op_isN (pv 4) pe_non (nomark _)) (pw_or1 (pt_not (pt_val (pe_callD D_is_day hr (by decide) (by rfl) (pa_cons (pe_op op_add (pv 4) (pv 2)) pa_nil)))))))
     (pss_one (ps_ret pe_non))
     pss_nil)
    (pss_one (ps_ret (pe_op op_add (pv 4) (pv 2)))))), ?_⟩), hm, F.kp, F.binds fun _ _ _ _ _ _ us hl => match us, hl with | [_, _, _, _], _ => rfl⟩
  · obtain ⟨n, k, d, how, rfl, _⟩ := h
    rfl
  · obtain ⟨n, k, d, how, rfl, c, h⟩ := h
    refine ⟨_, rfl, _, rfl, _, rfl, n, k, how, rfl, c, fun H1 s1 => ?_⟩
    have key : ∀ v : Option Int, spanP n k d how = v → Q (vO v) H1 := fun b e => e ▸ h H1 s1
    unfold spanP at key
    cases e : addP n k how with
    | none =>
      rw [e] at key
      refine ⟨_, rfl, rfl, _, rfl, ifT (c := true) rfl (ifT (c := true) rfl ?_)⟩
      exact key none rfl
    | some z =>
      rw [e] at key
      refine ⟨_, rfl, rfl, _, rfl, ifF (c := false) rfl ?_⟩
      refine ⟨_, rfl, _, rfl, _, _, rfl, rfl, _, rfl, trivial, _, rfl, ?_⟩
      cases e2 : Tm.isDay (z + d) with
      | false =>
        refine ifT (c := true) rfl ?_
        refine key none ?_
        show (if Tm.isDay (z + d) = true then some (z + d) else none) = none
        rw [e2]
        rfl
      | true =>
        refine ifF (c := false) rfl ?_
        refine ⟨_, rfl, _, rfl, _, _, rfl, rfl, ?_⟩
        refine key (some (z + d)) ?_
        show (if Tm.isDay (z + d) = true then some (z + d) else none) = some (z + d)
        rw [e2]
        rfl
abbrev s_span_between : Stmt := topS 82
theorem sc_span_between : FnScope ["a", "b", "months"] ["a", "b"] (defScope s_span_between) := ⟨rfl, rfl, rfl, by decide +kernel, rfl, by decide +kernel, by decide +kernel⟩
def sp_span_between : Sp := fun vs H Q _ => ∃ a b : Int, vs = [.int a, .int b] ∧ Cal a ∧ Cal b ∧ a ≤ b ∧ giveL H Q [(Tm.far a b).1, (Tm.far a b).2]
theorem ok_span_between (B : Blt K mg tbl) (T : Txd K mg "span_between" s_span_between) (D_month_number : Df P w K mg base "month_number" ["n"] 4 (sp_month_number)) (D_add_months : Df P w K mg base "add_months" ["n", "months", "how"] 5 (sp_add_months)) : Df P w K mg base "span_between" ["a", "b"] 6 (sp_span_between) := by
  obtain ⟨f, fd, F, hm⟩ := T.ex
  refine ⟨f, fd, F.ok sc_span_between (fun vs H Q E h => ?_) (fun cdv A outer s H vs Q E hr h => ⟨_, (pss_cons (ps_set (i := 2) sc_span_between.nd rfl (Or.inl rfl) (pe_op op_sub (pe_callD D_month_number hr (by decide) (by rfl) (pa_cons (pv 1) pa_nil)) (pe_callD D_month_number hr (by decide) (by rfl) (pa_cons (pv 0) pa_nil))))
    (pss_cons (ps_if (pt_cmpR op_gt (pe_callD D_add_months hr (by decide) (by rfl) (pa_cons (pv 0) (pa_cons (pv 2) (pa_cons (pe_gc (by rfl) B.ELSE_LAST) pa_nil)))) (pv 1) (nomark _))
     (pss_one (ps_aug (i := 2) sc_span_between.nd rfl (Or.inl rfl) pe_int ip_sub))
     pss_nil)
    (pss_one (ps_ret (pe_lst (pa_cons (pv 2) (pa_cons (pe_op op_sub (pv 1) (pe_callD D_add_months hr (by decide) (by rfl) (pa_cons (pv 0) (pa_cons (pv 2) (pa_cons (pe_gc (by rfl) B.ELSE_LAST) pa_nil))))) pa_nil))))))), ?_⟩), hm, F.kp, F.binds fun _ _ _ _ _ _ us hl => match us, hl with | [_, _], _ => rfl⟩
  · obtain ⟨a, b, rfl, _⟩ := h
    rfl
  · obtain ⟨a, b, rfl, ca, cb, ab, h⟩ := h
    obtain ⟨z, ez, f1, f2⟩ := farP_eq ca cb ab
    refine ⟨_, rfl, b, rfl, cb, fun H1 s1 => ⟨_, rfl, a, rfl, ca, fun H2 s2 => ⟨_, _, rfl, rfl, ?_⟩⟩⟩
    refine ⟨_, rfl, _, rfl, a, _, _, rfl, ca, fun H3 s3 => ?_⟩
    rw [ez]
    refine ⟨_, rfl, _, _, rfl, rfl, _, rfl, ?_⟩
    have S3 := s1.trans (s2.trans s3)
    by_cases q : b < z
    · obtain ⟨y, ey, f⟩ := f2 q
      refine ifT (decide_eq_true q) ?_
      refine ⟨_, rfl, _, _, rfl, rfl, ?_⟩
      refine ⟨_, rfl, _, rfl, _, rfl, _, rfl, a, _, _, rfl, ca, fun H4 s4 => ?_⟩
      rw [ey]
      refine ⟨_, _, rfl, rfl, len2, fun p hp => ?_⟩
      rw [f] at h
      exact h.at (S3.trans s4) hp
    · refine ifF (decide_eq_false q) ?_
      refine ⟨_, rfl, _, rfl, _, rfl, _, rfl, a, _, _, rfl, ca, fun H4 s4 => ?_⟩
      rw [ez]
      refine ⟨_, _, rfl, rfl, len2, fun p hp => ?_⟩
      rw [f1 (by omega)] at h
      exact h.at (S3.trans s4) hp
/-! ## The answers -/
def ansAdd (n k d how : Int) : List Int := if (Tm.isDay n && spanOk k d how) = true then (match spanP n k d how with
  | some z => [0, z]
  | none => [-4]) else [-1]
def ansFar (a b : Int) : List Int := if Tm.isDay a = true ∧ Tm.isDay b = true ∧ a ≤ b then [0, (Tm.far a b).1, (Tm.far a b).2] else [-1]
theorem told_add (s : Tm.State) (n k d how : Int) : TmNeutral.told (Tm.step s (.add n k d how)).2 = ansAdd n k d how := by
  unfold Tm.step ansAdd
  simp only
  cases e : Tm.isDay n with
  | false =>
    rw [if_pos (.inl rfl), if_neg (by simp)]
    rfl
  | true =>
    unfold spanOk Tm.monthsOk Tm.daysOk
    by_cases c : (-120000 ≤ k ∧ k ≤ 120000) ∧ (-4000000 ≤ d ∧ d ≤ 4000000) ∧ 0 ≤ how ∧ how ≤ 2
    · rw [decide_eq_true c, if_neg, if_pos (show (true && true) = true from rfl)]
      · have e2 : Tm.added n k d how.toNat = spanP n k d how := by
          unfold Tm.added spanP
          rw [addP_eq (isDay_iff.mp e) c.2.2.1]
        rw [e2]
        cases spanP n k d how <;> rfl
      · simp only [Bool.and_eq_false_iff, decide_eq_false_iff_not, reduceCtorEq, false_or]
        omega
    · rw [decide_eq_false c, if_pos, if_neg (by simp)]
      · rfl
      · simp only [Bool.and_eq_false_iff, decide_eq_false_iff_not, reduceCtorEq, false_or]
        omega
theorem told_far (s : Tm.State) (a b : Int) : TmNeutral.told (Tm.step s (.far a b)).2 = ansFar a b := by
  unfold Tm.step ansFar
  simp only
  by_cases c : Tm.isDay a = true ∧ Tm.isDay b = true ∧ a ≤ b
  · rw [if_pos c, if_neg]
    · rfl
    · rw [c.1, c.2.1]
      simp
      exact c.2.2
  · rw [if_neg c, if_pos]
    · rfl
    · by_cases c1 : Tm.isDay a = true
      · by_cases c2 : Tm.isDay b = true
        · right; right
          by_cases c3 : b < a
          · exact c3
          · exact absurd ⟨c1, c2, by omega⟩ c
        · right; left
          simpa using c2
      · left
        simpa using c1
abbrev s_answer_add : Stmt := topS 93
theorem sc_answer_add : FnScope ["n", "months", "days", "how", "day"] ["n", "months", "days", "how"] (defScope s_answer_add) := ⟨rfl, rfl, rfl, by decide +kernel, rfl, by decide +kernel, by decide +kernel⟩
def sp_answer_add : Sp := fun vs H Q _ => ∃ n k d how : Int, vs = [.int n, .int k, .int d, .int how] ∧ giveL H Q (ansAdd n k d how)
theorem ok_answer_add (B : Blt K mg tbl) (T : Txd K mg "answer_add" s_answer_add) (D_add_span : Df P w K mg base "add_span" ["n", "months", "days", "how"] 6 (sp_add_span)) (D_is_day : Df P w K mg base "is_day" ["n"] 1 (sp_is_day)) (D_is_span : Df P w K mg base "is_span" ["months", "days", "how"] 1 (sp_is_span)) : Df P w K mg base "answer_add" ["n", "months", "days", "how"] 7 (sp_answer_add) := by
  obtain ⟨f, fd, F, hm⟩ := T.ex
  refine ⟨f, fd, F.ok sc_answer_add (fun vs H Q E h => ?_) (fun cdv A outer s H vs Q E hr h => ⟨_, (pss_cons (ps_if (pt_not (PW.pt (pw_and (pt_val (pe_callD D_is_day hr (by decide) (by rfl) (pa_cons (pv 0) pa_nil))) (pw_and1 (pt_val (pe_callD D_is_span hr (by decide) (by rfl) (pa_cons (pv 1) (pa_cons (pv 2) (pa_cons (pv 3) pa_nil)))))))))
     (pss_one (ps_ret (pe_lst (pa_cons (pe_un un_neg pe_int) pa_nil))))
     pss_nil)
    (pss_cons (ps_set (i := 4) sc_answer_add.nd rfl (Or.inl rfl) (pe_callD D_add_span hr (by decide) (by rfl) (pa_cons (pv 0) (pa_cons (pv 1) (pa_cons (pv 2) (pa_cons (pv 3) pa_nil))))))
    (pss_cons (ps_if (pt_cmpR op_isN (pv 4) pe_non (nomark _))
     (pss_one (ps_ret (pe_lst (pa_cons (pe_un un_neg pe_int) pa_nil))))
     pss_nil)
    (pss_one (ps_ret (pe_lst (pa_cons pe_int (pa_cons (pv 4) pa_nil)))))))), ?_⟩), hm, F.kp, F.binds fun _ _ _ _ _ _ us hl => match us, hl with | [_, _, _, _], _ => rfl⟩
  · obtain ⟨n, k, d, how, rfl, _⟩ := h
    rfl
  · obtain ⟨n, k, d, how, rfl, h⟩ := h
    unfold ansAdd at h
    refine ⟨_, rfl, _, rfl, trivial, _, rfl, ?_⟩
    cases e : Tm.isDay n with
    | false =>
      rw [e] at h
      refine ifF (c := false) rfl (ifT (c := true) rfl ?_)
      exact ⟨_, rfl, small_le (by show 1 ≤ 5000; decide), fun p hp => h.at (Same.refl H) hp⟩
    | true =>
      rw [e] at h
      refine ifT (c := true) rfl ?_
      refine ⟨_, rfl, _, rfl, _, rfl, _, _, _, rfl, trivial, _, rfl, ?_⟩
      cases e2 : spanOk k d how with
      | false =>
        rw [e2] at h
        refine ifT (c := true) rfl ?_
        exact ⟨_, rfl, small_le (by show 1 ≤ 5000; decide), fun p hp => h.at (Same.refl H) hp⟩
      | true =>
        rw [e2] at h
        refine ifF (c := false) rfl ?_
        refine ⟨_, rfl, _, rfl, _, rfl, _, rfl, n, k, d, how, rfl, isDay_iff.mp e, fun H1 s1 => ?_⟩
        cases e3 : spanP n k d how with
        | none =>
          rw [e3] at h
          refine ⟨_, rfl, rfl, _, rfl, ifT (c := true) rfl ?_⟩
          exact ⟨_, rfl, small_le (by show 1 ≤ 5000; decide), fun p hp => h.at s1 hp⟩
        | some z =>
          rw [e3] at h
          refine ⟨_, rfl, rfl, _, rfl, ifF (c := false) rfl ?_⟩
          exact ⟨_, rfl, small_le (by show 2 ≤ 5000; decide), fun p hp => h.at s1 hp⟩
abbrev s_answer_far : Stmt := topS 94
theorem sc_answer_far : FnScope ["a", "b"] ["a", "b"] (defScope s_answer_far) := ⟨rfl, rfl, rfl, by decide +kernel, rfl, by decide +kernel, by decide +kernel⟩
def sp_answer_far : Sp := fun vs H Q _ => ∃ a b : Int, vs = [.int a, .int b] ∧ giveL H Q (ansFar a b)
theorem ok_answer_far (B : Blt K mg tbl) (T : Txd K mg "answer_far" s_answer_far) (D_span_between : Df P w K mg base "span_between" ["a", "b"] 6 (sp_span_between)) (D_is_day : Df P w K mg base "is_day" ["n"] 1 (sp_is_day)) : Df P w K mg base "answer_far" ["a", "b"] 7 (sp_answer_far) := by
  obtain ⟨f, fd, F, hm⟩ := T.ex
  refine ⟨f, fd, F.ok sc_answer_far (fun vs H Q E h => ?_) (fun cdv A outer s H vs Q E hr h => ⟨_, (pss_cons (ps_if (pt_not (PW.pt (pw_and (pt_val (pe_callD D_is_day hr (by decide) (by rfl) (pa_cons (pv 0) pa_nil))) (pw_and (pt_val (pe_callD D_is_day hr (by decide) (by rfl) (pa_cons (pv 1) pa_nil))) (pw_and1 (pt_cmpR op_le (pv 0) (pv 1) (nomark _)))))))
     (pss_one (ps_ret (pe_lst (pa_cons (pe_un un_neg pe_int) pa_nil))))
     pss_nil)
    (pss_one (ps_ret (pe_op op_cat (pe_lst (pa_cons pe_int pa_nil)) (pe_callD D_span_between hr (by decide) (by rfl) (pa_cons (pv 0) (pa_cons (pv 1) pa_nil))))))), ?_⟩), hm, F.kp, F.binds fun _ _ _ _ _ _ us hl => match us, hl with | [_, _], _ => rfl⟩
  · obtain ⟨a, b, rfl, _⟩ := h
    rfl
  · obtain ⟨a, b, rfl, h⟩ := h
    unfold ansFar at h
    have bad : ¬ (Tm.isDay a = true ∧ Tm.isDay b = true ∧ a ≤ b) → 1 ≤ sizeLine ∧ ∀ p, H p = none → Q (.ref p) (upd H p (.lst [.int (-1)])) := by
      intro q
      rw [if_neg q] at h
      exact ⟨small_le (by decide), fun p hp => h.at (Same.refl H) hp⟩
    refine ⟨_, rfl, _, rfl, trivial, _, rfl, ?_⟩
    cases e : Tm.isDay a with
    | false =>
      refine ifF (c := false) rfl (ifT (c := true) rfl ?_)
      exact ⟨_, rfl, bad (by rw [e]; simp)⟩
    | true =>
      refine ifT (c := true) rfl ?_
      refine ⟨_, rfl, _, rfl, trivial, _, rfl, ?_⟩
      cases e2 : Tm.isDay b with
      | false =>
        refine ifF (c := false) rfl (ifT (c := true) rfl ?_)
        exact ⟨_, rfl, bad (by rw [e2]; simp)⟩
      | true =>
        refine ifT (c := true) rfl ?_
        refine ⟨_, rfl, _, rfl, _, _, rfl, rfl, _, rfl, ?_⟩
        by_cases c : a ≤ b
        · refine ifF (by rw [decide_eq_true c]; rfl) ?_
          rw [if_pos ⟨e, e2, c⟩] at h
          refine ⟨small_le (by show 1 ≤ 5000; decide), fun p hp => ?_⟩
          have s1 : Same H (upd H p (.lst [.int 0])) := Same.new hp
          have hp1 : upd H p (.lst [.int 0]) p = some (.lst [.int 0]) := upd_same
          generalize upd H p (.lst [.int 0]) = H1 at *
          refine ⟨_, rfl, _, rfl, a, b, rfl, isDay_iff.mp e, isDay_iff.mp e2, c, fun q H2 s2 nq hq => ?_⟩
          refine ⟨p, q, _, _, rfl, rfl, s2 _ _ hp1, hq, small_le (by show 3 ≤ 5000; decide), fun x hx => ?_⟩
          exact h.at (s1.trans s2) hx
        · refine ifT (by rw [decide_eq_false c]; rfl) ?_
          exact ⟨_, rfl, bad (fun q => c q.2.2)⟩
end
end Cc
set_option Elab.async false
set_option maxRecDepth 100000
set_option maxHeartbeats 2000000
set_option linter.unusedSimpArgs false
set_option linter.unusedVariables false
namespace Cc
open PySem PySem.Spec PyProof.Rows L2
/-! ## >= of whole numbers or of tuples -/
def rGeT (K : PySem.W.Frag) : R2 := fun x y H Q => ∃ (a b : Addr) (ns ms : List Int), x = .ref a ∧ y = .ref b ∧ SqT K H a (ns.map V.int) ∧ SqT K H b (ms.map V.int) ∧
  Q (.bl (Ob.lexAt (fun j => decide (ns.getD j 0 = ms.getD j 0)) (fun j => decide (ms.getD j 0 ≤ ns.getD j 0)) (decide (ns.length ≥ ms.length)) 0 (min ns.length ms.length))) H
/-- tuples of whole numbers by >= -/
theorem op_geT {X : Cx} (room : X.A.units < cLine) : OpR X (compareOp .GtE) (rGeT X.K) := by
  rintro pins sh σ H _ _ v u Q I rx ry ⟨p, q, ns, ms, rfl, rfl, tp, tq, want⟩
  cases rx; cases ry
  obtain ⟨us, ru, pu, -⟩ := I.tuple tp
  obtain ⟨zs, rz, pz, -⟩ := I.tuple tq
  have iu := Vals.ints ru
  have iz := Vals.ints rz
  have nu : us.toArray.size = ns.length := List.size_toArray.trans iu.length
  have nz : zs.toArray.size = ms.length := List.size_toArray.trans iz.length
  have gu : ∀ k (h : k < us.toArray.size), ∃ t, us.toArray[k] = .int (ns.getD k 0) t := fun k h => IntsAre.int_at iu _ _ (by rw [List.size_toArray] at h; simp [h])
  have gz : ∀ k (h : k < zs.toArray.size), ∃ t, zs.toArray[k] = .int (ms.getD k 0) t := fun k h => IntsAre.int_at iz _ _ (by rw [List.size_toArray] at h; simp [h])
  have same : ∀ k (h : k < us.toArray.size) (h' : k < zs.toArray.size), SeqAt.EqAt X.A.in1 sh us.toArray[k] zs.toArray[k] (decide (ns.getD k 0 = ms.getD k 0)) := fun k h h' => by
    obtain ⟨_, eu⟩ := gu k h
    obtain ⟨_, ez⟩ := gz k h'
    rw [eu, ez]
    exact SeqAt.EqAt.int_int _ _ _ _
  have more : ∀ k (h : k < us.toArray.size) (h' : k < zs.toArray.size), decide (ns.getD k 0 = ms.getD k 0) = false → Ob.RcOp .GtE X.A.in1 sh us.toArray[k] zs.toArray[k] (decide (ms.getD k 0 ≤ ns.getD k 0)) := fun k h h' _ => by
    obtain ⟨_, eu⟩ := gu k h
    obtain ⟨_, ez⟩ := gz k h'
    rw [eu, ez]
    exact Ob.RcOp.ge_int _ _ _ _
  have all := Ob.RcOp.tuples_ge pu pz room same more
  rw [nu, nz] at all
  exact all X.prog X.w X.xe (EP X pins σ Q) ⟨.bl _, H, I, rfl, want⟩
def rGeM (K : PySem.W.Frag) : R2 := fun x y H Q => (∃ i j : Int, x = .int i ∧ y = .int j ∧ Q (.bl (decide (j ≤ i))) H) ∨ rGeT K x y H Q
theorem op_geM {X : Cx} (hu : X.A.units < cLine) : OpR X (compareOp .GtE) (rGeM X.K) := by
  intro pins s σ H x y v u Q I rx ry h
  rcases h with h | h
  · exact op_ge pins s σ H x y v u Q I rx ry h
  · exact op_geT hu pins s σ H x y v u Q I rx ry h
/-- a pair at an address -/
def ParAt (H : Hp) (a : Addr) (x : Int × Int) : Prop := H a = some (.tup [.int x.1, .int x.2])
theorem ParAt.same {H H' : Hp} {a : Addr} {x : Int × Int} (s : Same H H') (h : ParAt H a x) : ParAt H' a x := s _ _ h
theorem ParAt.ge {K : PySem.W.Frag} {H : Hp} {a b : Addr} {x y : Int × Int} {Q : VK} (ha : ParAt H a x) (hb : ParAt H b y) (q : Q (.bl (!plt x y)) H) : rGeM K (.ref a) (.ref b) H Q := by
  refine .inr ⟨a, b, [x.1, x.2], [y.1, y.2], rfl, rfl, SqT.of ha, SqT.of hb, ?_⟩
  have e : Ob.lexAt (fun j => decide ([x.1, x.2].getD j 0 = [y.1, y.2].getD j 0)) (fun j => decide ([y.1, y.2].getD j 0 ≤ [x.1, x.2].getD j 0)) (decide ([x.1, x.2].length ≥ [y.1, y.2].length)) 0 (min [x.1, x.2].length [y.1, y.2].length) = !plt x y := by
    show (if decide (x.1 = y.1) = true then (if decide (x.2 = y.2) = true then true else decide (y.2 ≤ x.2)) else decide (y.1 ≤ x.1)) = _
    unfold plt
    by_cases c1 : x.1 = y.1
    · by_cases c2 : x.2 = y.2
      · rw [decide_eq_true c1, decide_eq_true c2, decide_eq_false (show ¬ (x.1 < y.1 ∨ (x.1 = y.1 ∧ x.2 < y.2)) by omega)]
        rfl
      · rw [decide_eq_true c1, decide_eq_false c2, if_pos rfl, if_neg (by decide), ← decide_not, decide_eq_decide]
        omega
    · rw [decide_eq_false c1, if_neg (by decide), ← decide_not, decide_eq_decide]
      omega
  rw [e]
  exact q
theorem LstAt.item {α : Type} {R : Addr → α → Prop} {H : Hp} {l : Addr} {xs : List α} {as : List Addr} (hlen : as.length = xs.length) (hat : ∀ (i : Nat) (a : Addr) (x : α), as[i]? = some a → xs[i]? = some x → R a x) {i : Nat} {y : V} (h : (as.map V.ref)[i]? = some y) : ∃ a x, y = .ref a ∧ as[i]? = some a ∧ xs[i]? = some x ∧ R a x := by
  rw [List.getElem?_map] at h
  cases e : as[i]? with
  | none => rw [e] at h; cases h
  | some a =>
    rw [e] at h
    have hi : i < as.length := by
      by_cases q : i < as.length
      · exact q
      · rw [List.getElem?_eq_none (by omega)] at e
        cases e
    obtain ⟨x, hx⟩ := get_some (show i < xs.length by omega)
    exact ⟨a, x, (Option.some.inj h).symm, rfl, hx, hat i a x e hx⟩
theorem atI_at {xs : List V} {i : Int} {k : Nat} {v : V} (e : i = k) (h : xs[k]? = some v) : atI xs i = some v := by
  subst e
  have hl : k < xs.length := by
    by_cases q : k < xs.length
    · exact q
    · rw [List.getElem?_eq_none (by omega)] at h
      cases h
  unfold atI ixN
  rw [if_pos (by omega), if_pos (by omega)]
  exact h
section
variable {P : Program} {w : World} {K : PySem.W.Frag} {mg : Str → Option Value} {base : Heap} {tbl : Addr}
abbrev s_rise : Stmt := topS 61
theorem sc_rise : FnScope ["values", "at"] ["values"] (defScope s_rise) := ⟨rfl, rfl, rfl, by decide +kernel, rfl, by decide +kernel, by decide +kernel⟩
def sp_rise (K : PySem.W.Frag) : Sp := fun vs H Q _ => ∃ (l : Addr) (xs : List V) (lt : Nat → Bool), vs = [.ref l] ∧ SqL K H l xs ∧ xs.length ≤ 1000 ∧ (∀ i x y, xs[i]? = some x → xs[i + 1]? = some y → ∀ Q' : VK, Q' (.bl (!lt i)) H → rGeM K x y H Q') ∧ Q (.bl (risA xs.length lt)) H
theorem ok_rise (B : Blt K mg tbl) (T : Txd K mg "rise" s_rise)  : Df P w K mg base "rise" ["values"] 1 (sp_rise K) := by
  obtain ⟨f, fd, F, hm⟩ := T.ex
  refine ⟨f, fd, F.ok sc_rise (fun vs H Q E h => ?_) (fun cdv A outer s H vs Q E hr h => ⟨_, (pss_cons (ps_for PassesOwn.never rfl (pi_range2 (by rfl) B.b_range (pa_cons pe_int (pa_cons (pe_callB call_len_seq (by rfl) B.b_len (by decide +kernel) (pa_cons (pv 0) pa_nil)) pa_nil))) (pg_name (i := 1) sc_rise.nd rfl (Or.inl rfl))
     (pss_one (ps_if (pt_cmpR (op_geM hr.units0) (pe_ix ix_list (pv 0) (pe_op op_sub (pv 1) pe_int) (fun _ _ => rfl)) (pe_ix ix_list (pv 0) (pv 1) (fun _ _ => rfl)) (nomark _))
       (pss_one (ps_ret pe_bl))
       pss_nil)))
    (pss_one (ps_ret pe_bl))), ?_⟩), hm, F.kp, F.binds fun _ _ _ _ _ _ us hl => match us, hl with | [_], _ => rfl⟩
  · obtain ⟨l, xs, lt, rfl, _⟩ := h
    rfl
  · obtain ⟨l, xs, lt, rfl, hs, hl, hc, h⟩ := h
    refine ⟨_, rfl, l, _, rfl, .inl hs, _, _, rfl, ⟨by omega, by omega, by omega, by omega⟩, ?_⟩
    refine for_range (lo := 1) (n := ((xs.length : Int) - 1).toNat) (fun i σ H' => H' = H ∧ ∃ v, σ = [some (.ref l), v] ∧ ∀ j, j < i → lt j = true) ⟨rfl, none, rfl, fun j hj => by omega⟩ ?_ ?_
    · rintro i σ H' hi ⟨rfl, v, rfl, inv⟩
      obtain ⟨x, hx⟩ := get_some (show i < xs.length by omega)
      obtain ⟨y, hy⟩ := get_some (show i + 1 < xs.length by omega)
      refine ⟨_, rfl, _, rfl, _, _, rfl, rfl, l, _, _, _, rfl, rfl, hs, atI_at (k := i) (by omega) hx, ?_⟩
      refine ⟨_, rfl, _, rfl, l, _, _, _, rfl, rfl, hs, atI_at (k := i + 1) (by omega) hy, ?_⟩
      refine hc i x y hx hy _ ⟨_, rfl, ?_⟩
      cases e : lt i with
      | false =>
        refine ifT (c := true) rfl ?_
        have r : risA xs.length lt = false := by
          rw [Bool.eq_false_iff]
          intro q
          have := risA_iff.mp q i (by omega)
          rw [e] at this
          cases this
        rw [r] at h
        exact h
      | true =>
        refine ifF (c := false) rfl ?_
        refine ⟨rfl, _, rfl, fun j hj => ?_⟩
        by_cases z : j = i
        · rw [z]
          exact e
        · exact inv j (by omega)
    · rintro σ H' ⟨rfl, v, rfl, inv⟩
      have r : risA xs.length lt = true := risA_iff.mpr fun i hi => inv i (by omega)
      rw [r] at h
      exact h
theorem rise_ints {H : Hp} {l : Addr} {ns : List Int} {Q : VK} {E : XK} (hs : SqL K H l (ns.map V.int)) (hl : ns.length ≤ 1000) (q : Q (.bl (Tm.risingInts ns)) H) : sp_rise K [.ref l] H Q E := by
  refine ⟨l, _, fun i => decide (ns.getD i 0 < ns.getD (i + 1) 0), rfl, hs, by rw [List.length_map]; exact hl, fun i x y hx hy Q' q' => ?_, ?_⟩
  · rw [List.getElem?_map] at hx hy
    cases ex : ns[i]? with
    | none => rw [ex] at hx; cases hx
    | some a =>
    cases ey : ns[i + 1]? with
    | none => rw [ey] at hy; cases hy
    | some b =>
    rw [ex] at hx
    rw [ey] at hy
    refine .inl ⟨a, b, (Option.some.inj hx).symm, (Option.some.inj hy).symm, ?_⟩
    have e1 : ns.getD i 0 = a := by simp [List.getD, ex]
    have e2 : ns.getD (i + 1) 0 = b := by simp [List.getD, ey]
    change Q' (.bl (!decide (ns.getD i 0 < ns.getD (i + 1) 0))) H at q'
    rw [e1, e2] at q'
    have : decide (b ≤ a) = !decide (a < b) := by rw [← decide_not, decide_eq_decide]; omega
    rw [this]
    exact q'
  · rw [List.length_map, risA_ints]
    exact q
theorem rise_pairs {H : Hp} {l : Addr} {ps : List (Int × Int)} {Q : VK} {E : XK} (hs : LstAt (ParAt H) H l ps) (hl : ps.length ≤ 1000) (q : Q (.bl (risP ps)) H) : sp_rise K [.ref l] H Q E := by
  obtain ⟨as, ha, hlen, hat⟩ := hs
  refine ⟨l, as.map V.ref, fun i => plt (ps.getD i (0, 0)) (ps.getD (i + 1) (0, 0)), rfl, SqL.of ha, by rw [List.length_map]; omega, fun i x y hx hy Q' q' => ?_, ?_⟩
  · obtain ⟨a, x', rfl, _, ex, hax⟩ := LstAt.item (H := H) (l := l) hlen hat hx
    obtain ⟨b, y', rfl, _, ey, hby⟩ := LstAt.item (H := H) (l := l) hlen hat hy
    have e1 : ps.getD i (0, 0) = x' := by simp [List.getD, ex]
    have e2 : ps.getD (i + 1) (0, 0) = y' := by simp [List.getD, ey]
    change Q' (.bl (!plt (ps.getD i (0, 0)) (ps.getD (i + 1) (0, 0)))) H at q'
    rw [e1, e2] at q'
    exact hax.ge hby q'
  · rw [List.length_map, hlen]
    exact q
abbrev s_rise_within : Stmt := topS 60
theorem sc_rise_within : FnScope ["numbers", "least", "most"] ["numbers", "least", "most"] (defScope s_rise_within) := ⟨rfl, rfl, rfl, by decide +kernel, rfl, by decide +kernel, by decide +kernel⟩
def sp_rise_within (K : PySem.W.Frag) : Sp := fun vs H Q _ => ∃ (l : Addr) (ns : List Int) (lo hi : Int), vs = [.ref l, .int lo, .int hi] ∧ SqL K H l (ns.map V.int) ∧ ns.length ≤ 1000 ∧ Q (.bl (risW ns lo hi)) H
theorem atI_last (a : Int) (l : List Int) : atI ((a :: l).map V.int) (-1) = some (.int ((a :: l).getLast (by simp))) := by
  unfold atI ixN
  rw [if_neg (by decide), if_pos (by simp; omega)]
  show ((a :: l).map V.int)[(-1 + (((a :: l).map V.int).length : Int)).toNat]? = _
  have e : (-1 + (((a :: l).map V.int).length : Int)).toNat = (a :: l).length - 1 := by simp; omega
  rw [e, List.getElem?_map, ← List.getLast?_eq_getElem?, List.getLast?_eq_some_getLast (by simp)]
  rfl
theorem ok_rise_within (B : Blt K mg tbl) (T : Txd K mg "rise_within" s_rise_within) (D_rise : Df P w K mg base "rise" ["values"] 1 (sp_rise K)) : Df P w K mg base "rise_within" ["numbers", "least", "most"] 2 (sp_rise_within K) := by
  obtain ⟨f, fd, F, hm⟩ := T.ex
  refine ⟨f, fd, F.ok sc_rise_within (fun vs H Q E h => ?_) (fun cdv A outer s H vs Q E hr h => ⟨_, (pss_cons (ps_if (pt_cmpR op_eq (pe_callB call_len_seq (by rfl) B.b_len (by decide +kernel) (pa_cons (pv 0) pa_nil)) pe_int (nomark _))
     (pss_one (ps_ret pe_bl))
     pss_nil)
    (pss_one (ps_ret (pe_and (pe_cmpR op_le (pv 1) (pe_ix ix_list (pv 0) pe_int (fun _ _ => rfl)) (nomark _)) (pe_and (pe_cmpR op_le (pe_ix ix_list (pv 0) (pe_un un_neg pe_int) (fun _ _ => rfl)) (pv 2) (nomark _)) (pe_one (pe_callD D_rise hr (by decide) (by rfl) (pa_cons (pv 0) pa_nil)))))))), ?_⟩), hm, F.kp, F.binds fun _ _ _ _ _ _ us hl => match us, hl with | [_, _, _], _ => rfl⟩
  · obtain ⟨l, ns, lo, hi, rfl, _⟩ := h
    rfl
  · obtain ⟨l, ns, lo, hi, rfl, hs, hl, h⟩ := h
    refine ⟨_, rfl, l, _, rfl, .inl hs, rfl, _, rfl, ?_⟩
    rw [List.length_map]
    cases ns with
    | nil => exact ifT (c := true) rfl h
    | cons a t =>
      refine ifF (decide_eq_false fun q => ?_) ?_
      · have := V.int.inj q
        simp at this
        omega
      rw [risW_cons] at h
      refine ⟨_, rfl, _, rfl, l, _, _, _, rfl, rfl, hs, at_k (k := 0) rfl (by simp), _, _, rfl, rfl, _, rfl, ?_⟩
      change if decide (lo ≤ a) = true then _ else _
      by_cases c1 : lo ≤ a
      · refine ifT (decide_eq_true c1) ?_
        rw [decide_eq_true c1, Bool.true_and] at h
        refine ⟨_, rfl, _, rfl, l, _, _, _, rfl, rfl, hs, atI_last a t, _, rfl, _, _, rfl, rfl, _, rfl, ?_⟩
        by_cases c2 : (a :: t).getLast (by simp) ≤ hi
        · refine ifT (decide_eq_true c2) ?_
          rw [decide_eq_true c2, Bool.true_and] at h
          exact ⟨_, rfl, rise_ints (E := E0) hs hl h⟩
        · refine ifF (decide_eq_false c2) ?_
          rw [decide_eq_false c2, Bool.false_and] at h
          exact h
      · refine ifF (decide_eq_false c1) ?_
        rw [decide_eq_false c1, Bool.false_and] at h
        exact h
abbrev s_are_days : Stmt := topS 57
theorem sc_are_days : FnScope ["by", "days"] ["by", "days"] (defScope s_are_days) := ⟨rfl, rfl, rfl, by decide +kernel, rfl, by decide +kernel, by decide +kernel⟩
def sp_are_days (K : PySem.W.Frag) : Sp := fun vs H Q _ => ∃ (b : Int) (l : Addr) (ds : List Int), vs = [.int b, .ref l] ∧ SqL K H l (ds.map V.int) ∧ ds.length ≤ 1000 ∧ Q (.bl (daysOkP b ds)) H
theorem ok_are_days (B : Blt K mg tbl) (T : Txd K mg "are_days" s_are_days) (D_rise_within : Df P w K mg base "rise_within" ["numbers", "least", "most"] 2 (sp_rise_within K)) : Df P w K mg base "are_days" ["by", "days"] 3 (sp_are_days K) := by
  obtain ⟨f, fd, F, hm⟩ := T.ex
  refine ⟨f, fd, F.ok sc_are_days (fun vs H Q E h => ?_) (fun cdv A outer s H vs Q E hr h => ⟨_, (pss_cons (ps_if (pt_cmpR op_eq (pv 0) (pe_gc (by rfl) B.BY_DAY) (nomark _))
     (pss_one (ps_ret (pe_cmpR op_eq (pe_callB call_len_seq (by rfl) B.b_len (by decide +kernel) (pa_cons (pv 1) pa_nil)) pe_int (nomark _))))
     pss_nil)
    (pss_cons (ps_if (pt_cmpR op_eq (pv 0) (pe_gc (by rfl) B.BY_WEEK) (nomark _))
     (pss_one (ps_ret (pe_and (pe_cmpR op_gt (pe_callB call_len_seq (by rfl) B.b_len (by decide +kernel) (pa_cons (pv 1) pa_nil)) pe_int (nomark _)) (pe_one (pe_callD D_rise_within hr (by decide) (by rfl) (pa_cons (pv 1) (pa_cons pe_int (pa_cons pe_int pa_nil))))))))
     pss_nil)
    (pss_one (ps_ret (pe_and (pe_cmpR op_notIn_seq pe_int (pv 1) (by rfl)) (pe_one (pe_callD D_rise_within hr (by decide) (by rfl) (pa_cons (pv 1) (pa_cons (pe_un un_neg pe_int) (pa_cons pe_int pa_nil)))))))))), ?_⟩), hm, F.kp, F.binds fun _ _ _ _ _ _ us hl => match us, hl with | [_, _], _ => rfl⟩
  · obtain ⟨b, l, ds, rfl, _⟩ := h
    rfl
  · obtain ⟨b, l, ds, rfl, hs, hl, h⟩ := h
    unfold daysOkP at h
    refine ⟨_, rfl, rfl, _, rfl, ?_⟩
    by_cases c0 : b = 0
    · refine ifT (decide_eq_true (congrArg V.int c0)) ?_
      rw [if_pos c0] at h
      refine ⟨_, rfl, l, _, rfl, .inl hs, rfl, ?_⟩
      rw [List.length_map]
      cases ds <;> exact h
    · refine ifF (decide_eq_false fun q => c0 (V.int.inj q)) ?_
      rw [if_neg c0] at h
      refine ⟨_, rfl, rfl, _, rfl, ?_⟩
      by_cases c1 : b = 1
      · refine ifT (decide_eq_true (congrArg V.int c1)) ?_
        rw [if_pos c1] at h
        refine ⟨_, rfl, l, _, rfl, .inl hs, _, _, rfl, rfl, _, rfl, ?_⟩
        rw [List.length_map]
        cases ds with
        | nil => exact ifF (c := false) rfl h
        | cons a t =>
          refine ifT (decide_eq_true (by simp)) ?_
          exact ⟨_, rfl, l, _, _, _, rfl, hs, hl, h⟩
      · refine ifF (decide_eq_false fun q => c1 (V.int.inj q)) ?_
        rw [if_neg c1] at h
        refine ⟨_, rfl, l, _, rfl, .inl hs, rfl, flat_ints _, _, rfl, ?_⟩
        rw [inV_ints]
        by_cases c2 : 0 ∈ ds
        · refine ifF (by rw [decide_eq_true c2]; rfl) ?_
          rw [decide_eq_true c2] at h
          exact h
        · refine ifT (by rw [decide_eq_false c2]; rfl) ?_
          rw [decide_eq_false c2] at h
          exact ⟨_, rfl, _, rfl, l, _, _, _, rfl, hs, hl, h⟩
abbrev s_are_months : Stmt := topS 58
theorem sc_are_months : FnScope ["months"] ["months"] (defScope s_are_months) := ⟨rfl, rfl, rfl, by decide +kernel, rfl, by decide +kernel, by decide +kernel⟩
def sp_are_months (K : PySem.W.Frag) : Sp := fun vs H Q _ => ∃ (l : Addr) (ms : List Int), vs = [.ref l] ∧ SqL K H l (ms.map V.int) ∧ ms.length ≤ 1000 ∧ Q (.bl (risW ms 1 12)) H
theorem ok_are_months (B : Blt K mg tbl) (T : Txd K mg "are_months" s_are_months) (D_rise_within : Df P w K mg base "rise_within" ["numbers", "least", "most"] 2 (sp_rise_within K)) : Df P w K mg base "are_months" ["months"] 3 (sp_are_months K) := by
  obtain ⟨f, fd, F, hm⟩ := T.ex
  refine ⟨f, fd, F.ok sc_are_months (fun vs H Q E h => ?_) (fun cdv A outer s H vs Q E hr h => ⟨_, (pss_one (ps_ret (pe_callD D_rise_within hr (by decide) (by rfl) (pa_cons (pv 0) (pa_cons pe_int (pa_cons pe_int pa_nil)))))), ?_⟩), hm, F.kp, F.binds fun _ _ _ _ _ _ us hl => match us, hl with | [_], _ => rfl⟩
  · obtain ⟨l, ms, rfl, _⟩ := h
    rfl
  · obtain ⟨l, ms, rfl, hs, hl, h⟩ := h
    exact ⟨_, rfl, l, _, _, _, rfl, hs, hl, h⟩
abbrev s_are_pairs : Stmt := topS 59
theorem sc_are_pairs : FnScope ["by", "pairs", "pair"] ["by", "pairs"] (defScope s_are_pairs) := ⟨rfl, rfl, rfl, by decide +kernel, rfl, by decide +kernel, by decide +kernel⟩
def sp_are_pairs (K : PySem.W.Frag) : Sp := fun vs H Q _ => ∃ (b : Int) (l : Addr) (ps : List (Int × Int)), vs = [.int b, .ref l] ∧ LstAt (ParAt H) H l ps ∧ ps.length ≤ 1000 ∧ Q (.bl (parsOkP b ps)) H
theorem ok_are_pairs (B : Blt K mg tbl) (T : Txd K mg "are_pairs" s_are_pairs) (D_rise : Df P w K mg base "rise" ["values"] 1 (sp_rise K)) : Df P w K mg base "are_pairs" ["by", "pairs"] 2 (sp_are_pairs K) := by
  obtain ⟨f, fd, F, hm⟩ := T.ex
  refine ⟨f, fd, F.ok sc_are_pairs (fun vs H Q E h => ?_) (fun cdv A outer s H vs Q E hr h => ⟨_, (pss_cons (ps_if (pt_cmpR op_lt (pv 0) (pe_gc (by rfl) B.BY_MONTH) (nomark _))
     (pss_one (ps_ret (pe_cmpR op_eq (pe_callB call_len_seq (by rfl) B.b_len (by decide +kernel) (pa_cons (pv 1) pa_nil)) pe_int (nomark _))))
     pss_nil)
    (pss_cons (ps_for PassesOwn.never rfl (pi_list (pv 1)) (pg_name (i := 2) sc_are_pairs.nd rfl (Or.inl rfl))
     (pss_one (ps_if (pt_not (PW.pt (pw_and (pt_chain op_le op_le pe_int (pe_callB call_abs (by rfl) B.b_abs (by decide +kernel) (pa_cons (pe_ix ix_tup (pv 2) pe_int (fun _ _ => rfl)) pa_nil)) pe_int) (pw_and1 (pt_chain op_le op_le pe_int (pe_ix ix_tup (pv 2) pe_int (fun _ _ => rfl)) pe_int)))))
       (pss_one (ps_ret pe_bl))
       pss_nil)))
    (pss_one (ps_ret (pe_callD D_rise hr (by decide) (by rfl) (pa_cons (pv 1) pa_nil)))))), ?_⟩), hm, F.kp, F.binds fun _ _ _ _ _ _ us hl => match us, hl with | [_, _], _ => rfl⟩
  · obtain ⟨b, l, ds, rfl, _⟩ := h
    rfl
  · obtain ⟨b, l, ps, rfl, hs, hl, h⟩ := h
    have hs0 := hs
    obtain ⟨as, ha, hlen, hat⟩ := hs
    unfold parsOkP at h
    refine ⟨_, rfl, _, _, rfl, rfl, _, rfl, ?_⟩
    by_cases c0 : b < 2
    · refine ifT (decide_eq_true c0) ?_
      rw [if_pos c0] at h
      refine ⟨_, rfl, l, _, rfl, .inl (SqL.of ha), rfl, ?_⟩
      rw [List.length_map, hlen]
      cases ps <;> exact h
    · refine ifF (decide_eq_false c0) ?_
      rw [if_neg c0] at h
      refine ⟨_, rfl, l, rfl, ⟨_, SqL.of ha⟩, for_list (K := K) (a := l) (xs := as.map V.ref) (fun i σ H' => H' = H ∧ ∃ v, σ = [some (.int b), some (.ref l), v] ∧ ∀ (j : Nat) (x : Int × Int), j < i → ps[j]? = some x → parB x = true) ⟨rfl, none, rfl, fun j x hj => by omega⟩ (fun i σ H' _ ⟨e, _⟩ => e ▸ SqL.of ha) ?_ ?_⟩
      · rintro i y σ H' hi ⟨rfl, v, rfl, inv⟩
        obtain ⟨a, x, rfl, _, hx, hax⟩ := LstAt.item (H := H') (l := l) hlen hat hi
        have bad : parB x = false → Q (.bl false) H' := by
          intro e
          rw [List.all_eq_false.mpr ⟨x, List.mem_of_getElem? hx, by rw [e]; decide⟩, Bool.false_and] at h
          exact h
        unfold parB at bad
        refine ⟨_, rfl, a, _, _, _, rfl, rfl, SqT.of hax, rfl, _, rfl, _, _, rfl, rfl, _, rfl, ?_⟩
        change _ → Q (.bl false) H' at bad
        by_cases c1 : 1 ≤ absP x.1
        case neg =>
          refine ifF (decide_eq_false c1) ?_
          exact ⟨_, rfl, ifF (c := false) rfl (ifT (c := true) rfl (bad (decide_eq_false fun q => c1 q.1.1)))⟩
        refine ifT (decide_eq_true c1) ?_
        refine ⟨_, _, rfl, rfl, _, rfl, ?_⟩
        by_cases c2 : absP x.1 ≤ 5
        case neg =>
          refine ifF (decide_eq_false c2) ?_
          exact ifT (c := true) rfl (bad (decide_eq_false fun q => c2 q.1.2))
        refine ifT (decide_eq_true c2) ?_
        refine ⟨_, rfl, a, _, _, _, rfl, rfl, SqT.of hax, rfl, _, _, rfl, rfl, _, rfl, ?_⟩
        by_cases c3 : 0 ≤ x.2
        case neg =>
          refine ifF (decide_eq_false c3) ?_
          exact ⟨_, rfl, ifT (c := true) rfl (bad (decide_eq_false fun q => c3 q.2.1))⟩
        refine ifT (decide_eq_true c3) ?_
        refine ⟨_, _, rfl, rfl, _, rfl, ?_⟩
        by_cases c4 : x.2 ≤ 6
        case neg =>
          exact ifT (by rw [decide_eq_false c4]; rfl) (bad (decide_eq_false fun q => c4 q.2.2))
        refine ifF (by rw [decide_eq_true c4]; rfl) ?_
        refine ⟨rfl, _, rfl, fun j z hj hz => ?_⟩
        by_cases e : j = i
        · subst e
          rw [hx] at hz
          cases hz
          exact decide_eq_true ⟨⟨c1, c2⟩, c3, c4⟩
        · exact inv j z (by omega) hz
      · rintro σ H' ⟨rfl, v, rfl, inv⟩
        have all : ps.all parB = true := by
          rw [List.all_eq_true]
          intro x hx
          obtain ⟨j, hj⟩ := List.mem_iff_getElem?.mp hx
          have : j < ps.length := by
            by_cases q : j < ps.length
            · exact q
            · rw [List.getElem?_eq_none (by omega)] at hj
              cases hj
          exact inv j x (by rw [List.length_map]; omega) hj
        rw [all, Bool.true_and] at h
        exact ⟨_, rfl, rise_pairs (E := E0) hs0 hl h⟩
abbrev s_are_ahead : Stmt := topS 56
theorem sc_are_ahead : FnScope ["numbers"] ["numbers"] (defScope s_are_ahead) := ⟨rfl, rfl, rfl, by decide +kernel, rfl, by decide +kernel, by decide +kernel⟩
def sp_are_ahead (K : PySem.W.Frag) : Sp := fun vs H Q _ => ∃ (l : Addr) (ns : List Int), vs = [.ref l] ∧ SqL K H l (ns.map V.int) ∧ 5 ≤ ns.length ∧ Q (.bl (aheadOk ns)) H
theorem ok_are_ahead (B : Blt K mg tbl) (T : Txd K mg "are_ahead" s_are_ahead) (D_is_day : Df P w K mg base "is_day" ["n"] 1 (sp_is_day)) : Df P w K mg base "are_ahead" ["numbers"] 2 (sp_are_ahead K) := by
  obtain ⟨f, fd, F, hm⟩ := T.ex
  refine ⟨f, fd, F.ok sc_are_ahead (fun vs H Q E h => ?_) (fun cdv A outer s H vs Q E hr h => ⟨_, (pss_cons (ps_if (pt_not (PW.pt (pw_and (pt_chain op_le op_le (pe_gc (by rfl) B.BY_DAY) (pe_ix ix_list (pv 0) pe_int (fun _ _ => rfl)) (pe_gc (by rfl) B.BY_YEAR)) (pw_and (pt_chain op_le op_le pe_int (pe_ix ix_list (pv 0) pe_int (fun _ _ => rfl)) (pe_gc (by rfl) B.MOST_EVERY)) (pw_and1 (pt_val (pe_callD D_is_day hr (by decide) (by rfl) (pa_cons (pe_ix ix_list (pv 0) pe_int (fun _ _ => rfl)) pa_nil))))))))
     (pss_one (ps_ret pe_bl))
     pss_nil)
    (pss_cons (ps_if (pt_cmpR op_eq (pe_ix ix_list (pv 0) pe_int (fun _ _ => rfl)) pe_int (nomark _))
     (pss_one (ps_ret (pe_cmpR op_eq (pe_ix ix_list (pv 0) pe_int (fun _ _ => rfl)) pe_int (nomark _))))
     pss_nil)
    (pss_one (ps_ret (pe_and (pe_cmpR op_eq (pe_ix ix_list (pv 0) pe_int (fun _ _ => rfl)) pe_int (nomark _)) (pe_one (pe_callD D_is_day hr (by decide) (by rfl) (pa_cons (pe_ix ix_list (pv 0) pe_int (fun _ _ => rfl)) pa_nil)))))))), ?_⟩), hm, F.kp, F.binds fun _ _ _ _ _ _ us hl => match us, hl with | [_], _ => rfl⟩
  · obtain ⟨l, ns, rfl, _⟩ := h
    rfl
  · obtain ⟨l, ns, rfl, hs, hl, h⟩ := h
    have g0 := at_k (ns := ns) (i := 0) (k := 0) rfl (by omega)
    have g1 := at_k (ns := ns) (i := 1) (k := 1) rfl (by omega)
    have g2 := at_k (ns := ns) (i := 2) (k := 2) rfl (by omega)
    have g3 := at_k (ns := ns) (i := 3) (k := 3) rfl (by omega)
    have g4 := at_k (ns := ns) (i := 4) (k := 4) rfl (by omega)
    have key : ∀ b : Bool, aheadOk ns = b → Q (.bl b) H := fun b e => e ▸ h
    unfold aheadOk at key
    generalize ns.getD 0 0 = n0 at *
    generalize ns.getD 1 0 = n1 at *
    generalize ns.getD 2 0 = n2 at *
    generalize ns.getD 3 0 = n3 at *
    generalize ns.getD 4 0 = n4 at *
    have bad : ¬ ((0 ≤ n0 ∧ n0 ≤ 3) ∧ 1 ≤ n1 ∧ n1 ≤ 1000) → Q (.bl false) H := fun q => key false (by rw [decide_eq_false q, Bool.false_and, Bool.false_and])
    refine ⟨_, rfl, l, _, _, _, rfl, rfl, hs, g0, _, _, rfl, rfl, _, rfl, ?_⟩
    by_cases c0 : 0 ≤ n0
    case neg =>
      refine ifF (decide_eq_false c0) ?_
      exact ⟨_, rfl, ifF (c := false) rfl (ifT (c := true) rfl (bad (by omega)))⟩
    refine ifT (decide_eq_true c0) ?_
    refine ⟨_, _, rfl, rfl, _, rfl, ?_⟩
    by_cases c1 : n0 ≤ 3
    case neg =>
      refine ifF (decide_eq_false c1) ?_
      exact ifT (c := true) rfl (bad (by omega))
    refine ifT (decide_eq_true c1) ?_
    refine ⟨_, rfl, l, _, _, _, rfl, rfl, hs, g1, _, _, rfl, rfl, _, rfl, ?_⟩
    by_cases c2 : 1 ≤ n1
    case neg =>
      refine ifF (decide_eq_false c2) ?_
      exact ⟨_, rfl, ifF (c := false) rfl (ifT (c := true) rfl (bad (by omega)))⟩
    refine ifT (decide_eq_true c2) ?_
    refine ⟨_, _, rfl, rfl, _, rfl, ?_⟩
    by_cases c3 : n1 ≤ 1000
    case neg =>
      refine ifF (decide_eq_false c3) ?_
      exact ifT (c := true) rfl (bad (by omega))
    refine ifT (decide_eq_true c3) ?_
    rw [decide_eq_true ⟨⟨c0, c1⟩, c2, c3⟩, Bool.true_and] at key
    refine ⟨_, rfl, l, _, _, _, rfl, rfl, hs, g2, _, rfl, trivial, _, rfl, ?_⟩
    cases e2 : Tm.isDay n2 with
    | false =>
      rw [e2, Bool.false_and] at key
      exact ifT (c := true) rfl (key _ rfl)
    | true =>
      rw [e2, Bool.true_and] at key
      refine ifF (c := false) rfl ?_
      refine ⟨_, rfl, l, _, _, _, rfl, rfl, hs, g3, rfl, _, rfl, ?_⟩
      by_cases c4 : n3 = 0
      · refine ifT (decide_eq_true (congrArg V.int c4)) ?_
        rw [if_pos c4] at key
        refine ⟨_, rfl, l, _, _, _, rfl, rfl, hs, g4, rfl, ?_⟩
        refine key _ ?_
        rw [decide_eq_decide]
        exact ⟨congrArg V.int, V.int.inj⟩
      · refine ifF (decide_eq_false fun q => c4 (V.int.inj q)) ?_
        rw [if_neg c4] at key
        refine ⟨_, rfl, l, _, _, _, rfl, rfl, hs, g3, rfl, _, rfl, ?_⟩
        by_cases c5 : n3 = 1
        · refine ifT (decide_eq_true (congrArg V.int c5)) ?_
          rw [decide_eq_true c5, Bool.true_and] at key
          exact ⟨_, rfl, l, _, _, _, rfl, rfl, hs, g4, _, rfl, trivial, key _ rfl⟩
        · refine ifF (decide_eq_false fun q => c5 (V.int.inj q)) ?_
          rw [decide_eq_false c5, Bool.false_and] at key
          exact key _ rfl
end
end Cc
set_option Elab.async false
set_option maxRecDepth 100000
set_option maxHeartbeats 2000000
set_option linter.unusedSimpArgs false
set_option linter.unusedVariables false
namespace Cc
open PySem PySem.Spec PyProof.Rows L2
theorem cut_nat (ns : List Int) (a b : Nat) (h : a ≤ b) : cutV (ns.map V.int) (some (a : Int)) (some (b : Int)) = ((ns.drop a).take (b - a)).map V.int := by
  unfold cutV
  rw [HT.sIx_nat, HT.sIx_nat, ← List.map_drop, ← List.map_take, List.length_map]
  congr 1
  by_cases c : a ≤ ns.length
  · rw [show min a ns.length = a by omega, List.take_eq_take_iff, List.length_drop]
    omega
  · rw [List.drop_eq_nil_of_le (by omega), List.drop_eq_nil_of_le (as := ns) (i := a) (by omega)]
    simp
section
variable {P : Program} {w : World} {K : PySem.W.Frag} {mg : Str → Option Value} {base : Heap} {tbl : Addr}
/-! ## The lists of a recurrence's numbers -/
abbrev s_lists_from : Stmt := topS 55
theorem sc_lists_from : FnScope ["numbers", "lists", "at", "bound", "end"] ["numbers"] (defScope s_lists_from) := ⟨rfl, rfl, rfl, by decide +kernel, rfl, by decide +kernel, by decide +kernel⟩
def sp_lists_from (K : PySem.W.Frag) : Sp := fun vs H Q _ => ∃ (l : Addr) (ns : List Int), vs = [.ref l] ∧ SqL K H l (ns.map V.int) ∧ ns.length ≤ 1000 ∧ ((∀ a b c, ¬ Shape ns a b c) → ∀ H', Same H H' → Q .non H') ∧
  (∀ a b c, Shape ns a b c → ∀ (p l1 l2 l3 : Addr) (H' : Hp), Same H H' → H l1 = none → H l2 = none → H l3 = none → H' p = some (.lst [.ref l1, .ref l2, .ref l3]) → H' l1 = some (.lst (((ns.drop 6).take a).map V.int)) → H' l2 = some (.lst (((ns.drop (7 + a)).take b).map V.int)) → H' l3 = some (.lst (((ns.drop (8 + a + b)).take (2 * c)).map V.int)) → Q (.ref p) H')
theorem ok_lists_from (B : Blt K mg tbl) (T : Txd K mg "lists_from" s_lists_from)  : Df P w K mg base "lists_from" ["numbers"] 1 (sp_lists_from K) := by
  obtain ⟨f, fd, F, hm⟩ := T.ex
  refine ⟨f, fd, F.ok sc_lists_from (fun vs H Q E h => ?_) (fun cdv A outer s H vs Q E hr h => ⟨_, (pss_cons (ps_set (i := 1) sc_lists_from.nd rfl (Or.inl rfl) (pe_lst pa_nil))
    (pss_cons (ps_set (i := 2) sc_lists_from.nd rfl (Or.inl rfl) (pe_gc (by rfl) B.NUMBERS_AHEAD))
    (pss_cons (ps_for PassesOwn.never rfl (pi_tup (pe_tup (pa_cons (pe_tup (pa_cons (pe_gc (by rfl) B.MOST_DAYS_recurrences) (pa_cons pe_int pa_nil))) (pa_cons (pe_tup (pa_cons (pe_gc (by rfl) B.MOST_MONTHS_recurrences) (pa_cons pe_int pa_nil))) (pa_cons (pe_tup (pa_cons (pe_gc (by rfl) B.MOST_PAIRS) (pa_cons pe_int pa_nil))) pa_nil))))) (pg_name (i := 3) sc_lists_from.nd rfl (Or.inl rfl))
     (pss_cons (ps_if (PW.pt (pw_or (pt_cmpR op_ge (pv 2) (pe_callB call_len_seq (by rfl) B.b_len (by decide +kernel) (pa_cons (pv 0) pa_nil)) (nomark _)) (pw_or1 (pt_not (pt_chain op_le op_le pe_int (pe_ix ix_list (pv 0) (pv 2) (fun _ _ => rfl)) (pe_ix ix_tup (pv 3) pe_int (fun _ _ => rfl)))))))
       (pss_one (ps_ret pe_non))
       pss_nil)
      (pss_cons (ps_set (i := 4) sc_lists_from.nd rfl (Or.inl rfl) (pe_op op_add (pe_op op_add (pv 2) pe_int) (pe_op op_mul (pe_ix ix_list (pv 0) (pv 2) (fun _ _ => rfl)) (pe_ix ix_tup (pv 3) pe_int (fun _ _ => rfl)))))
      (pss_cons (ps_expr (pe_bm PySem.F.plainAttrs_list PySem.F.slot_list_append PySem.F.type_list_append mt_append (pv 1) (pa_cons (pe_slice sl_list (pv 0) (po_some (pe_op op_add (pv 2) pe_int)) (po_some (pv 4))) pa_nil)))
      (pss_one (ps_set (i := 2) sc_lists_from.nd rfl (Or.inl rfl) (pv 4)))))))
    (pss_cons (ps_if (pt_cmpR op_ne (pv 2) (pe_callB call_len_seq (by rfl) B.b_len (by decide +kernel) (pa_cons (pv 0) pa_nil)) (nomark _))
     (pss_one (ps_ret pe_non))
     pss_nil)
    (pss_one (ps_ret (pv 1))))))), ?_⟩), hm, F.kp, F.binds fun _ _ _ _ _ _ us hl => match us, hl with | [_], _ => rfl⟩
  · obtain ⟨l, ns, rfl, _⟩ := h
    rfl
  · obtain ⟨l, ns, rfl, hs, hl, hN, hS⟩ := h
    have len : (ns.map V.int).length = ns.length := List.length_map _
    refine ⟨small_le (by show 0 ≤ 5000; decide), fun L hL => ⟨len2, fun t1 ht1 => ⟨len2, fun t2 ht2 => ⟨len2, fun t3 ht3 => ⟨len3, fun t ht => ?_⟩⟩⟩⟩⟩
    have sL : Same H (upd H L (.lst [])) := Same.new hL
    have eL : upd H L (.lst []) L = some (.lst []) := upd_same
    generalize upd H L (.lst []) = H0 at *
    have s1 : Same H0 (upd H0 t1 (.tup [.int 62, .int 1])) := Same.new ht1
    have e1 : upd H0 t1 (.tup [.int 62, .int 1]) t1 = some (.tup [.int 62, .int 1]) := upd_same
    generalize upd H0 t1 (.tup [.int 62, .int 1]) = H1 at *
    have s2 : Same H1 (upd H1 t2 (.tup [.int 12, .int 1])) := Same.new ht2
    have e2 : upd H1 t2 (.tup [.int 12, .int 1]) t2 = some (.tup [.int 12, .int 1]) := upd_same
    generalize upd H1 t2 (.tup [.int 12, .int 1]) = H2 at *
    have s3 : Same H2 (upd H2 t3 (.tup [.int 70, .int 2])) := Same.new ht3
    have e3 : upd H2 t3 (.tup [.int 70, .int 2]) t3 = some (.tup [.int 70, .int 2]) := upd_same
    generalize upd H2 t3 (.tup [.int 70, .int 2]) = H3 at *
    have s4 : Same H3 (upd H3 t (.tup [.ref t1, .ref t2, .ref t3])) := Same.new ht
    have e4 : upd H3 t (.tup [.ref t1, .ref t2, .ref t3]) t = some (.tup [.ref t1, .ref t2, .ref t3]) := upd_same
    generalize upd H3 t (.tup [.ref t1, .ref t2, .ref t3]) = H4 at *
    have S4 := sL.trans (s1.trans (s2.trans (s3.trans s4)))
    replace eL := s4 _ _ (s3 _ _ (s2 _ _ (s1 _ _ eL)))
    replace e1 := s4 _ _ (s3 _ _ (s2 _ _ e1))
    replace e2 := s4 _ _ (s3 _ _ e2)
    replace e3 := s4 _ _ e3
    have item : ∀ (i : Nat) (x : V), [V.ref t1, .ref t2, .ref t3][i]? = some x → i < 3 ∧ ∃ z, x = .ref z ∧ H4 z = some (.tup [.int (Bs i), .int (Ms i : Nat)]) := by
      intro i x hx
      match i, hx with
      | 0, hx => exact ⟨by omega, t1, (Option.some.inj hx).symm, e1⟩
      | 1, hx => exact ⟨by omega, t2, (Option.some.inj hx).symm, e2⟩
      | 2, hx => exact ⟨by omega, t3, (Option.some.inj hx).symm, e3⟩
      | i + 3, hx => cases hx
    refine ⟨t, rfl, ⟨_, SqT.of e4⟩, for_tup (K := K) (a := t) (xs := [.ref t1, .ref t2, .ref t3]) (fun i σ H' => ∃ (cs : Nat → Nat) (as : List Addr) (v v' : Option V), σ = [some (.ref l), some (.ref L), some (.int (posn cs i : Nat)), v, v'] ∧ Wk ns i cs ∧ as.length = i ∧ (∀ b o, b ≠ L → H4 b = some o → H' b = some o) ∧ H' L = some (.lst (as.map V.ref)) ∧ ∀ (j : Nat) (a : Addr), as[j]? = some a → H4 a = none ∧ H' a = some (.lst (((ns.drop (posn cs j + 1)).take (Ms j * cs j)).map V.int))) ⟨fun _ => 0, [], none, none, rfl, fun j hj => by omega, rfl, fun _ _ _ e => e, eL, fun j a e => by cases e⟩ (fun i σ H' _ ⟨cs, as, v, v', _, _, _, fr, hL', _⟩ => SqT.of (fr _ _ (fun z => by rw [z, eL] at e4; cases e4) e4)) ?_ ?_⟩
    · rintro i x σ H' hi ⟨cs, as, v, v', rfl, wk, al, fr, hL', inv⟩
      obtain ⟨i3, z, rfl, hz⟩ := item i x hi
      have hz' := fr _ _ (fun q => by rw [q, eL] at hz; cases hz) hz
      have SH : Same H H' := fun b o e => fr b o (fun q => by rw [q, hL] at e; cases e) (S4 b o e)
      have hs' := SH.seq hs
      refine ⟨_, rfl, _, rfl, l, _, rfl, .inl hs', _, _, rfl, rfl, _, rfl, ?_⟩
      rw [len]
      by_cases c1 : (ns.length : Int) ≤ (posn cs i : Nat)
      · refine ifT (decide_eq_true c1) (ifT (c := true) rfl ?_)
        exact hN (wk.stop i3 fun q => by omega) H' SH
      refine ifF (decide_eq_false c1) ?_
      have g := at_k (ns := ns) (i := (posn cs i : Nat)) (k := posn cs i) rfl (by omega)
      refine ⟨_, rfl, _, rfl, l, _, _, _, rfl, rfl, hs', g, _, _, rfl, rfl, _, rfl, ?_⟩
      by_cases c2 : 0 ≤ ns.getD (posn cs i) 0
      case neg =>
        refine ifF (decide_eq_false c2) ⟨_, rfl, ifT (c := true) rfl ?_⟩
        exact hN (wk.stop i3 fun q => c2 q.2.1) H' SH
      refine ifT (decide_eq_true c2) ?_
      refine ⟨_, rfl, z, _, _, _, rfl, rfl, SqT.of hz', rfl, _, _, rfl, rfl, _, rfl, ?_⟩
      by_cases c3 : ns.getD (posn cs i) 0 ≤ Bs i
      case neg =>
        refine ifT (by rw [decide_eq_false c3]; rfl) ?_
        exact hN (wk.stop i3 fun q => c3 q.2.2) H' SH
      refine ifF (by rw [decide_eq_true c3]; rfl) ?_
      refine ⟨_, rfl, _, _, rfl, rfl, _, rfl, _, rfl, l, _, _, _, rfl, rfl, hs', g, _, rfl, z, _, _, _, rfl, rfl, SqT.of hz', rfl, _, _, rfl, rfl, .inr (by unfold Ms; split <;> exact ⟨by decide, by decide⟩), _, _, rfl, rfl, ?_⟩
      obtain ⟨c, hc⟩ : ∃ c : Nat, ns.getD (posn cs i) 0 = c := ⟨(ns.getD (posn cs i) 0).toNat, by omega⟩
      have cb : (c : Int) ≤ 70 := by
        rw [hc] at c3
        have : Bs i ≤ 70 := by unfold Bs; split <;> decide
        omega
      rw [hc]
      have en : ((posn cs i : Nat) : Int) + 1 + (c : Int) * (Ms i : Nat) = ((posn cs i + 1 + Ms i * c : Nat) : Int) := by
        rw [Int.natCast_add, Int.natCast_mul, Int.mul_comm]
        rfl
      dsimp only
      rw [en]
      refine ⟨_, rfl, .inl ⟨rfl, _, SqL.of hL'⟩, _, rfl, _, rfl, _, _, rfl, rfl, _, rfl, _, rfl, _, rfl, l, _, rfl, hs', fun q hq => ?_⟩
      have cut : cutV (ns.map V.int) (some (((posn cs i : Nat) : Int) + 1)) (some ((posn cs i + 1 + Ms i * c : Nat) : Int)) = ((ns.drop (posn cs i + 1)).take (Ms i * c)).map V.int := by
        have := cut_nat ns (posn cs i + 1) (posn cs i + 1 + Ms i * c) (by omega)
        rw [show posn cs i + 1 + Ms i * c - (posn cs i + 1) = Ms i * c by omega] at this
        exact this
      rw [cut]
      have nqL : q ≠ L := fun y => by rw [y, hL'] at hq; cases hq
      have hLq : upd H' q (.lst (((ns.drop (posn cs i + 1)).take (Ms i * c)).map V.int)) L = some (.lst (as.map V.ref)) := by rw [upd_ne (fun y => nqL y.symm)]; exact hL'
      refine ⟨L, _, _, rfl, rfl, hLq, by rw [List.length_map]; exact small_len (by omega), _, rfl, ?_⟩
      have agr : ∀ j, j < i → (fun j => if j = i then c else cs j) j = cs j := fun j hj => if_neg (by omega)
      have pagr : ∀ k, k ≤ i → posn (fun j => if j = i then c else cs j) k = posn cs k := fun k hk => posn_congr k fun j hj => agr j (by omega)
      have cii : (fun j => if j = i then c else cs j) i = c := if_pos rfl
      refine ⟨fun j => if j = i then c else cs j, as ++ [q], some (.ref z), some (.int ((posn cs i + 1 + Ms i * c : Nat) : Int)), ?_, ?_, ?_, ?_, ?_, ?_⟩
      · have : posn (fun j => if j = i then c else cs j) (i + 1) = posn cs i + 1 + Ms i * c := by
          show posn (fun j => if j = i then c else cs j) i + 1 + Ms i * (fun j => if j = i then c else cs j) i = _
          rw [pagr i (Nat.le_refl _), cii]
        rw [this]
        rfl
      · intro j hj
        rw [pagr j (by omega)]
        by_cases e : j = i
        · subst e
          show _ ∧ _ = (((if j = j then c else cs j) : Nat) : Int) ∧ (((if j = j then c else cs j) : Nat) : Int) ≤ Bs j
          rw [if_pos rfl]
          exact ⟨by omega, hc, by omega⟩
        · show _ ∧ _ = (((if j = i then c else cs j) : Nat) : Int) ∧ (((if j = i then c else cs j) : Nat) : Int) ≤ Bs j
          rw [if_neg e]
          exact wk j (by omega)
      · rw [List.length_append, al]
        rfl
      · intro b o nb eb
        rw [upd_ne nb, upd_ne (fun y => by rw [y] at eb; rw [fr q o nqL eb] at hq; cases hq)]
        exact fr b o nb eb
      · rw [upd_same, List.map_append]
        rfl
      · intro j a ha
        rcases get_app ha with ha | ⟨rfl, rfl⟩
        · obtain ⟨i1, i2⟩ := inv j a ha
          have hj : j < i := by
            by_cases q : j < as.length
            · omega
            · rw [List.getElem?_eq_none (by omega)] at ha
              cases ha
          have naL : a ≠ L := fun y => by rw [y, hL'] at i2; injection i2 with i2; injection i2 with i2; rw [y, eL] at i1; cases i1
          refine ⟨i1, ?_⟩
          rw [upd_ne naL, upd_ne (fun y => by rw [y, hq] at i2; cases i2), pagr j (by omega)]
          show _ = some (HO.lst (((ns.drop (posn cs j + 1)).take (Ms j * (if j = i then c else cs j))).map V.int))
          rw [if_neg (by omega)]
          exact i2
        · rw [al]
          refine ⟨?_, ?_⟩
          · cases e : H4 q with
            | none => rfl
            | some o => rw [fr q o nqL e] at hq; cases hq
          · rw [upd_ne nqL, upd_same, pagr i (Nat.le_refl _)]
            show _ = some (HO.lst (((ns.drop (posn cs i + 1)).take (Ms i * (if i = i then c else cs i))).map V.int))
            rw [if_pos rfl]
    · rintro σ H' ⟨cs, as, v, v', rfl, wk, al, fr, hL', inv⟩
      have SH : Same H H' := fun b o e => fr b o (fun q => by rw [q, hL] at e; cases e) (S4 b o e)
      have hs' := SH.seq hs
      refine ⟨_, rfl, _, rfl, l, _, rfl, .inl hs', rfl, _, rfl, ?_⟩
      rw [len]
      by_cases c : posn cs 3 = ns.length
      case neg =>
        refine ifT ?_ ?_
        · rw [decide_eq_false (fun q => c (by have := V.int.inj q; exact Int.ofNat.inj this))]
          rfl
        · exact hN (wk.stop3 c) H' SH
      refine ifF ?_ ?_
      · rw [decide_eq_true (by show V.int ((posn cs 3 : Nat) : Int) = V.int (ns.length : Int); rw [c])]
        rfl
      match as, al, hL', inv with
      | [l1, l2, l3], _, hL', inv =>
        have i1 := inv 0 l1 rfl
        have i2 := inv 1 l2 rfl
        have i3 := inv 2 l3 rfl
        have p1 : posn cs 1 + 1 = 7 + cs 0 := by show 5 + 1 + 1 * cs 0 + 1 = _; omega
        have p2 : posn cs 2 + 1 = 8 + cs 0 + cs 1 := by show 5 + 1 + 1 * cs 0 + 1 + 1 * cs 1 + 1 = _; omega
        have m0 : Ms 0 * cs 0 = cs 0 := Nat.one_mul _
        have m1 : Ms 1 * cs 1 = cs 1 := Nat.one_mul _
        rw [m0] at i1
        rw [m1, p1] at i2
        rw [p2] at i3
        exact ⟨_, rfl, hS _ _ _ (wk.shape c.symm) L l1 l2 l3 H' SH (S4.free i1.1) (S4.free i2.1) (S4.free i3.1) hL' i1.2 i2.2 i3.2⟩
end
end Cc
set_option Elab.async false
set_option maxRecDepth 100000
set_option maxHeartbeats 2000000
set_option linter.unusedSimpArgs false
set_option linter.unusedVariables false
namespace Cc
open PySem PySem.Spec PyProof.Rows L2
section
variable {P : Program} {w : World} {K : PySem.W.Frag} {mg : Str → Option Value} {base : Heap} {tbl : Addr}
/-! ## What a recurrence keeps: origins, a table -/
def origP (b f : Int) (ds : List Int) : List Int := if b = 0 then [f] else if b = 1 then ds.map (fun d => f - wdM f + d) else []
abbrev s_origins_of : Stmt := topS 62
theorem sc_origins_of : FnScope ["by", "first", "days", "monday", "weekday"] ["by", "first", "days"] (defScope s_origins_of) := ⟨rfl, rfl, rfl, by decide +kernel, rfl, by decide +kernel, by decide +kernel⟩
def sp_origins_of (K : PySem.W.Frag) : Sp := fun vs H Q _ => ∃ (b f : Int) (l : Addr) (ds : List Int), vs = [.int b, .int f, .ref l] ∧ SqL K H l (ds.map V.int) ∧ ds.length ≤ 1000 ∧ giveL H Q (origP b f ds)
theorem ok_origins_of (B : Blt K mg tbl) (T : Txd K mg "origins_of" s_origins_of) (D_weekday_of : Df P w K mg base "weekday_of" ["n"] 1 (sp_weekday_of)) : Df P w K mg base "origins_of" ["by", "first", "days"] 2 (sp_origins_of K) := by
  obtain ⟨f, fd, F, hm⟩ := T.ex
  refine ⟨f, fd, F.ok sc_origins_of (fun vs H Q E h => ?_) (fun cdv A outer s H vs Q E hr h => ⟨_, (pss_cons (ps_if (pt_cmpR op_eq (pv 0) (pe_gc (by rfl) B.BY_DAY) (nomark _))
     (pss_one (ps_ret (pe_lst (pa_cons (pv 1) pa_nil))))
     pss_nil)
    (pss_cons (ps_if (pt_cmpR op_eq (pv 0) (pe_gc (by rfl) B.BY_WEEK) (nomark _))
     (pss_cons (ps_set (i := 3) sc_origins_of.nd rfl (Or.inr rfl) (pe_op op_sub (pv 1) (pe_callD D_weekday_of hr (by decide) (by rfl) (pa_cons (pv 1) pa_nil))))
      (pss_one (ps_ret (pe_lc (own := [("weekday", 4)]) (g := gName 4) (tt := tYes) (te := (tOp (rI0 fun i j => V.int (i + j)) (tVar 3) (tVar 4))) rfl sc_origins_of.nd (pi_list (pv 2)) (blkOk_by (own := [("weekday", 4)]) (N := ["by", "first", "days", "monday", "weekday"]) (sc := defScope s_origins_of) (by decide +kernel)) (fun _ _ _ _ _ => pg_name (i := 4) sc_origins_of.nd rfl (Or.inl rfl)) (fun _ _ _ _ _ => pts_nil) (fun _ _ _ _ _ => (pe_op op_add (pv 3) (pv 4)))))))
     pss_nil)
    (pss_one (ps_ret (pe_lst pa_nil))))), ?_⟩), hm, F.kp, F.binds fun _ _ _ _ _ _ us hl => match us, hl with | [_, _, _], _ => rfl⟩
  · obtain ⟨b, f, l, ds, rfl, _⟩ := h
    rfl
  · obtain ⟨b, f, l, ds, rfl, hs, hl, h⟩ := h
    unfold origP at h
    refine ⟨_, rfl, rfl, _, rfl, ?_⟩
    by_cases c0 : b = 0
    · refine ifT (decide_eq_true (congrArg V.int c0)) ?_
      rw [if_pos c0] at h
      exact ⟨_, rfl, small_le (by show 1 ≤ 5000; decide), fun p hp => h.at (Same.refl H) hp⟩
    · refine ifF (decide_eq_false fun q => c0 (V.int.inj q)) ?_
      rw [if_neg c0] at h
      refine ⟨_, rfl, rfl, _, rfl, ?_⟩
      by_cases c1 : b = 1
      · refine ifT (decide_eq_true (congrArg V.int c1)) ?_
        rw [if_pos c1] at h
        refine ⟨_, rfl, _, rfl, _, rfl, trivial, _, _, rfl, rfl, ?_⟩
        refine ⟨_, rfl, l, rfl, ⟨_, hs⟩, fun D hD => lc_list (K := K) (a := l) (xs := ds.map V.int) (fun i H' => Same H H' ∧ H' D = some (.lst (((ds.take i).map fun d => f - wdM f + d).map V.int))) ⟨Same.new hD, upd_same⟩ (fun i H' _ ⟨s, _⟩ => s.seq hs) ?_ ?_⟩
        · rintro i y H' hi ⟨s, hd⟩
          rw [List.getElem?_map] at hi
          cases ed : ds[i]? with
          | none => rw [ed] at hi; cases hi
          | some d =>
          rw [ed] at hi
          obtain rfl : V.int d = y := Option.some.inj hi
          refine ⟨rfl, ?_⟩
          simp only [tYes, if_true]
          refine ⟨_, rfl, _, rfl, _, _, rfl, rfl, _, hd, ?_, Same.put s hD, ?_⟩
          · rw [List.length_map, List.length_map, List.length_take]
            exact small_len (by omega)
          · rw [take_more ed, List.map_append, List.map_append]
            exact upd_same
        · rintro H1 ⟨s1, hd1⟩
          rw [List.length_map, List.take_length] at hd1
          exact h D H1 s1 hD hd1
      · refine ifF (decide_eq_false fun q => c1 (V.int.inj q)) ?_
        rw [if_neg c1] at h
        exact ⟨small_le (by show 0 ≤ 5000; decide), fun p hp => h.at (Same.refl H) hp⟩
abbrev s_day_of_pair : Stmt := topS 65
theorem sc_day_of_pair : FnScope ["length", "weekday", "k", "w", "last_weekday"] ["length", "weekday", "k", "w"] (defScope s_day_of_pair) := ⟨rfl, rfl, rfl, by decide +kernel, rfl, by decide +kernel, by decide +kernel⟩
def sp_day_of_pair : Sp := sp4 (fun _ _ _ _ => True) fun len wd k w => .int (dayOfPair len wd k w)
theorem ok_day_of_pair (B : Blt K mg tbl) (T : Txd K mg "day_of_pair" s_day_of_pair)  : Df P w K mg base "day_of_pair" ["length", "weekday", "k", "w"] 1 (sp_day_of_pair) := by
  obtain ⟨f, fd, F, hm⟩ := T.ex
  refine ⟨f, fd, F.ok sc_day_of_pair (fun vs H Q E h => ?_) (fun cdv A outer s H vs Q E hr h => ⟨_, (pss_cons (ps_if (pt_cmpR op_gt (pv 2) pe_int (nomark _))
     (pss_one (ps_ret (pe_op op_add (pe_op op_add pe_int (pe_op op_mod (pe_op op_sub (pv 3) (pv 1)) pe_int)) (pe_op op_mul pe_int (pe_op op_sub (pv 2) pe_int)))))
     pss_nil)
    (pss_cons (ps_set (i := 4) sc_day_of_pair.nd rfl (Or.inl rfl) (pe_op op_mod (pe_op op_sub (pe_op op_add (pv 1) (pv 0)) pe_int) pe_int))
    (pss_one (ps_ret (pe_op op_add (pe_op op_sub (pv 0) (pe_op op_mod (pe_op op_sub (pv 4) (pv 3)) pe_int)) (pe_op op_mul pe_int (pe_op op_add (pv 2) pe_int))))))), ?_⟩), hm, F.kp, F.binds fun _ _ _ _ _ _ us hl => match us, hl with | [_, _, _, _], _ => rfl⟩
  · obtain ⟨a, b, c, d, rfl, _⟩ := h
    rfl
  · obtain ⟨len, wd, k, d, rfl, _, h⟩ := h
    simp only [cxOf, tFld, HO.ins.injEq, tSeq, tLst, tTup, tNext, tBreak, tCont, tRet, tRetN, tDrop, tAsg, gName, tAug, ipI, tIfS, tIf, tTest, tChain, tB, tAnd, tOr, tNot, tAndV, tOrV, tNotV, tOp, tUn, rU, tVar, tC, rI, rI0, rEq, rNe, CDiv, CMul, tCall, tCB, tCons, tNil, sp1, sp2, sp3, sp4, L2.start, scal, List.map, List.length, List.replicate, List.append, List.cons_append, List.nil_append, List.append_nil, List.set_cons_zero, List.set_cons_succ, List.getElem?_cons_zero, List.getElem?_cons_succ, Option.some.injEq, V.int.injEq, V.bl.injEq, V.ref.injEq, List.cons.injEq, and_assoc, exists_and_left, exists_eq_left', exists_eq_left, and_true, true_and, decide_eq_true_eq, Bool.not_eq_true', decide_eq_false_iff_not, if_true, if_false, reduceCtorEq, decide_false, decide_true, Bool.false_eq_true, Bool.true_eq_false, Bool.not_true, Bool.not_false, ite_true, ite_false, Int.reduceLT, Int.reduceLE, Int.reduceNeg, Int.reducePow, or_true, true_or, not_true_eq_false, not_false_eq_true, exists_eq, exists_eq']
    have key : ∀ v : Int, dayOfPair len wd k d = v → Q (.int v) H := fun v e => e ▸ h
    unfold dayOfPair at key
    split
    · next c => exact key _ (if_pos c)
    · next c => exact key _ (if_neg c)
abbrev s_told_of_month : Stmt := topS 64
theorem sc_told_of_month : FnScope ["length", "weekday", "days", "pairs", "told", "day", "pair"] ["length", "weekday", "days", "pairs"] (defScope s_told_of_month) := ⟨rfl, rfl, rfl, by decide +kernel, rfl, by decide +kernel, by decide +kernel⟩
def sp_told_of_month (K : PySem.W.Frag) : Sp := fun vs H Q _ => ∃ (len wd : Int) (ld lp : Addr) (ds : List Int) (ps : List (Int × Int)), vs = [.int len, .int wd, .ref ld, .ref lp] ∧ SqL K H ld (ds.map V.int) ∧ LstAt (ParAt H) H lp ps ∧ ds.length ≤ 1000 ∧ ps.length ≤ 1000 ∧ 0 ≤ len ∧ len ≤ 100 ∧ giveL H Q (toldL ds ps len wd)
theorem any_more {α : Type} {l : List α} {i : Nat} {x : α} {f : α → Bool} (h : l[i]? = some x) : (l.take (i + 1)).any f = ((l.take i).any f || f x) := by
  rw [take_more h, List.any_append]
  simp
theorem putK_le (c : List (Key × V)) (k : Key) (x : V) : (putK c k x).length ≤ c.length + 1 := by
  unfold putK
  split
  · rw [List.length_map]
    omega
  · rw [List.length_append]
    simp
theorem put_some {kvs : List (Key × V)} {z x : Int} {v : V} {b : Bool} (h : (valV kvs (.inl x)).isSome = b) : (valV (putK kvs (.inl z) v) (.inl x)).isSome = (b || decide (z = x)) := by
  rw [valV_put]
  by_cases c : z = x
  · rw [if_pos (by rw [c]), decide_eq_true c, Bool.or_true]
    rfl
  · rw [if_neg (fun q => c (Sum.inl.inj q).symm), decide_eq_false c, Bool.or_false]
    exact h
theorem ok_told_of_month (B : Blt K mg tbl) (T : Txd K mg "told_of_month" s_told_of_month) (D_day_of_pair : Df P w K mg base "day_of_pair" ["length", "weekday", "k", "w"] 1 (sp_day_of_pair)) : Df P w K mg base "told_of_month" ["length", "weekday", "days", "pairs"] 2 (sp_told_of_month K) := by
  obtain ⟨f, fd, F, hm⟩ := T.ex
  refine ⟨f, fd, F.ok sc_told_of_month (fun vs H Q E h => ?_) (fun cdv A outer s H vs Q E hr h => ⟨_, (pss_cons (ps_set (i := 4) sc_told_of_month.nd rfl (Or.inr rfl) pe_dnewK)
    (pss_cons (ps_for PassesOwn.never rfl (pi_list (pv 2)) (pg_name (i := 5) sc_told_of_month.nd rfl (Or.inl rfl))
     (pss_one (ps_dput (hu_of hr) (pv 4) (pe_ifExp (pt_cmpR op_gt (pv 5) pe_int (nomark _)) (pv 5) (pe_op op_add (pe_op op_add (pv 0) pe_int) (pv 5))) pe_bl rfl)))
    (pss_cons (ps_for PassesOwn.never rfl (pi_list (pv 3)) (pg_name (i := 6) sc_told_of_month.nd rfl (Or.inl rfl))
     (pss_one (ps_dput (hu_of hr) (pv 4) (pe_callD D_day_of_pair hr (by decide) (by rfl) (pa_cons (pv 0) (pa_cons (pv 1) (pa_cons (pe_ix ix_tup (pv 6) pe_int (fun _ _ => rfl)) (pa_cons (pe_ix ix_tup (pv 6) pe_int (fun _ _ => rfl)) pa_nil))))) pe_bl rfl)))
    (pss_one (ps_ret (pe_lc (own := [("day", 5)]) (g := gName 5) (te := (tVar 5)) rfl sc_told_of_month.nd (pi_range2 (by rfl) B.b_range (pa_cons pe_int (pa_cons (pe_op op_add (pv 0) pe_int) pa_nil))) (blkOk_by (own := [("day", 5)]) (N := ["length", "weekday", "days", "pairs", "told", "day", "pair"]) (sc := defScope s_told_of_month) (by decide +kernel)) (fun _ _ _ _ _ => pg_name (i := 5) sc_told_of_month.nd rfl (Or.inl rfl)) (fun _ _ _ _ _ => pts_one (pt_cmp (pc_din (hu_of hr) (pv 5) (pv 4)))) (fun _ _ _ _ _ => (pv 5)))))))), ?_⟩), hm, F.kp, F.binds fun _ _ _ _ _ _ us hl => match us, hl with | [_, _, _, _], _ => rfl⟩
  · obtain ⟨a, b, c, d, _, _, rfl, _⟩ := h
    rfl
  · obtain ⟨len, wd, ld, lp, ds, ps, rfl, hs, hp, hl, hpl, l0, l1, h⟩ := h
    intro T hT
    have S1 : Same H (upd H T (.dK [])) := Same.new hT
    have hT1 : upd H T (.dK []) T = some (.dK []) := upd_same
    generalize upd H T (.dK []) = H1 at *
    have hs1 := S1.seq hs
    refine ⟨_, rfl, ld, rfl, ⟨_, hs1⟩, for_list (K := K) (a := ld) (xs := ds.map V.int) (fun i σ H' => (∃ v, σ = [some (.int len), some (.int wd), some (.ref ld), some (.ref lp), some (.ref T), v, none]) ∧ Same H H' ∧ ∃ kvs, H' T = some (.dK kvs) ∧ kvs.length ≤ i ∧ ∀ x : Int, (valV kvs (.inl x)).isSome = (ds.take i).any (fun d => decide (dayOfDay len d = x))) ⟨⟨none, rfl⟩, S1, [], hT1, Nat.le_refl _, fun x => rfl⟩ (fun i σ H' _ ⟨_, s, _⟩ => s.seq hs) ?_ ?_⟩
    · rintro i y σ H' hi ⟨⟨v, rfl⟩, s, kvs, hT', kl, inv⟩
      rw [List.getElem?_map] at hi
      cases ed : ds[i]? with
      | none => rw [ed] at hi; cases hi
      | some d =>
      rw [ed] at hi
      obtain rfl : V.int d = y := Option.some.inj hi
      have ibd : i < ds.length := by
        by_cases q : i < ds.length
        · exact q
        · rw [List.getElem?_eq_none (by omega)] at ed
          cases ed
      have done : ∀ z : Int, dayOfDay len d = z → ∀ v0, (∃ v, [some (V.int len), some (.int wd), some (.ref ld), some (.ref lp), some (.ref T), v0, none] = [some (.int len), some (.int wd), some (.ref ld), some (.ref lp), some (.ref T), v, none]) ∧ Same H (upd H' T (.dK (putK kvs (.inl z) (.bl true)))) ∧ ∃ kvs', upd H' T (.dK (putK kvs (.inl z) (.bl true))) T = some (.dK kvs') ∧ kvs'.length ≤ i + 1 ∧ ∀ x : Int, (valV kvs' (.inl x)).isSome = (ds.take (i + 1)).any (fun d => decide (dayOfDay len d = x)) := by
        intro z ez v0
        refine ⟨⟨_, rfl⟩, Same.put s hT, _, upd_same, ?_, fun x => ?_⟩
        · have := putK_le kvs (.inl z) (.bl true)
          omega
        · rw [put_some (inv x), any_more ed, ez]
      refine ⟨_, rfl, _, rfl, _, _, rfl, rfl, _, rfl, ?_⟩
      by_cases c : 0 < d
      · refine ifT (decide_eq_true c) ?_
        exact ⟨_, rfl, T, _, rfl, DPut.k (k := Sum.inl d) hT' (small_len (by omega)), done d (if_pos c) _⟩
      · refine ifF (decide_eq_false c) ?_
        exact ⟨_, rfl, _, _, rfl, rfl, _, rfl, _, _, rfl, rfl, T, _, rfl, DPut.k (k := Sum.inl (len + 1 + d)) hT' (small_len (by omega)), done (len + 1 + d) (if_neg c) _⟩
    · rintro σ H2 ⟨⟨v, rfl⟩, S2, kvs, hT2, kl, inv⟩
      rw [List.length_map] at kl inv
      rw [List.take_length] at inv
      obtain ⟨as, ha, hlen, hat⟩ := hp
      refine ⟨_, rfl, lp, rfl, ⟨_, SqL.of (S2 _ _ ha)⟩, for_list (K := K) (a := lp) (xs := as.map V.ref) (fun i σ H' => (∃ v', σ = [some (.int len), some (.int wd), some (.ref ld), some (.ref lp), some (.ref T), v, v']) ∧ Same H H' ∧ ∃ kvs, H' T = some (.dK kvs) ∧ kvs.length ≤ ds.length + i ∧ ∀ x : Int, (valV kvs (.inl x)).isSome = (ds.any (fun d => decide (dayOfDay len d = x)) || (ps.take i).any (fun p => decide (dayOfPair len wd p.1 p.2 = x)))) ⟨⟨none, rfl⟩, S2, kvs, hT2, kl, fun x => by rw [inv x]; simp⟩ (fun i σ H' _ ⟨_, s, _⟩ => SqL.of (s _ _ ha)) ?_ ?_⟩
      · rintro i y σ H' hi ⟨⟨v', rfl⟩, s, kvs, hT', kl, inv⟩
        obtain ⟨a, x, rfl, ha', hx, hax⟩ := LstAt.item (H := H) (l := lp) hlen hat hi
        have ibd : i < ps.length := by
          by_cases q : i < ps.length
          · exact q
          · rw [List.getElem?_eq_none (by omega)] at hx
            cases hx
        have hax' := hax.same s
        refine ⟨_, rfl, _, rfl, _, rfl, _, rfl, a, _, _, _, rfl, rfl, SqT.of hax', rfl, _, rfl, a, _, _, _, rfl, rfl, SqT.of hax', rfl, _, _, _, _, rfl, trivial, T, _, rfl, DPut.k (k := Sum.inl (dayOfPair len wd x.1 x.2)) hT' (small_len (by omega)), ⟨_, rfl⟩, Same.put s hT, _, upd_same, ?_, fun z => ?_⟩
        · have := putK_le kvs (.inl (dayOfPair len wd x.1 x.2)) (.bl true)
          omega
        · rw [put_some (inv z), any_more hx, Bool.or_assoc]
      · rintro σ H3 ⟨⟨v', rfl⟩, S3, kvs, hT3, kl, inv⟩
        rw [List.length_map, hlen, List.take_length] at inv
        have inv' : ∀ x : Int, (valV kvs (.inl x)).isSome = toldB ds ps len wd x := inv
        refine ⟨_, rfl, _, _, rfl, rfl, _, _, rfl, ⟨by omega, by omega, by omega, by omega⟩, fun D hD => lc_range (lo := 1) (n := (len + 1 - 1).toNat) (fun i H' => Same H3 H' ∧ H' D = some (.lst ((dys (toldB ds ps len wd) 1 i).map V.int))) ⟨Same.new hD, upd_same⟩ ?_ ?_⟩
        · rintro i H' hi ⟨s, hd⟩
          refine ⟨rfl, ?_⟩
          refine ⟨_, rfl, _, rfl, T, _, rfl, DGet.k (k := Sum.inl (1 + (i : Int))) (s _ _ hT3), _, rfl, ?_⟩
          rw [inv', dys_more]
          cases e : toldB ds ps len wd (1 + (i : Int)) with
          | false =>
            refine iteF ?_
            exact ⟨s, hd⟩
          | true =>
            refine iteT ?_
            refine ⟨_, rfl, _, hd, ?_, Same.put s hD, ?_⟩
            · rw [List.length_map]
              have : (dys (toldB ds ps len wd) 1 i).length ≤ i := by
                rw [dys_len]
                have : ∀ (f : Nat) (a : Int), cntF (toldB ds ps len wd) a f ≤ f := by
                  intro f
                  induction f with
                  | zero => intro a; exact Nat.le_refl _
                  | succ f ih =>
                    intro a
                    have := ih (a + 1)
                    unfold cntF
                    split <;> omega
                exact this i 1
              exact small_len (by omega)
            · rw [upd_same, if_pos rfl, List.map_append]
              rfl
        · rintro H4 ⟨s4, hd4⟩
          rw [show (len + 1 - 1).toNat = len.toNat by omega] at hd4
          exact h D H4 (S3.trans s4) (S3.free hD) hd4
end
end Cc
set_option Elab.async false
set_option maxRecDepth 100000
set_option maxHeartbeats 2000000
set_option linter.unusedSimpArgs false
set_option linter.unusedVariables false
namespace Cc
open PySem PySem.Spec PyProof.Rows L2
section
variable {P : Program} {w : World} {K : PySem.W.Frag} {mg : Str → Option Value} {base : Heap} {tbl C_Recurrence : Addr}
/-- the table of a recurrence by month or year, at an address -/
def TabP (H : Hp) (tb : Addr) (b : Int) (ds : List Int) (ps : List (Int × Int)) : Prop := ∃ kvs : List (List Key × V), H tb = some (.dT kvs) ∧ (2 ≤ b → ∀ len wd : Int, 28 ≤ len → len ≤ 31 → 0 ≤ wd → wd ≤ 6 → ∃ l, valV kvs [.inl len, .inl wd] = some (.ref l) ∧ H l = some (.lst ((toldL ds ps len wd).map V.int)))
theorem TabP.same {H H' : Hp} {tb : Addr} {b : Int} {ds : List Int} {ps : List (Int × Int)} (s : Same H H') (h : TabP H tb b ds ps) : TabP H' tb b ds ps := by
  obtain ⟨kvs, h1, h2⟩ := h
  refine ⟨kvs, s _ _ h1, fun b2 len wd a1 a2 a3 a4 => ?_⟩
  obtain ⟨l, e1, e2⟩ := h2 b2 len wd a1 a2 a3 a4
  exact ⟨l, e1, s _ _ e2⟩
theorem putT_le (c : List (List Key × V)) (k : List Key) (x : V) : (putK c k x).length ≤ c.length + 1 := by
  unfold putK
  split
  · rw [List.length_map]
    omega
  · rw [List.length_append]
    simp
abbrev s_table_of : Stmt := topS 63
theorem sc_table_of : FnScope ["by", "days", "pairs", "table", "length", "weekday"] ["by", "days", "pairs"] (defScope s_table_of) := ⟨rfl, rfl, rfl, by decide +kernel, rfl, by decide +kernel, by decide +kernel⟩
def sp_table_of (K : PySem.W.Frag) : Sp := fun vs H Q _ => ∃ (b : Int) (ld lp : Addr) (ds : List Int) (ps : List (Int × Int)), vs = [.int b, .ref ld, .ref lp] ∧ SqL K H ld (ds.map V.int) ∧ LstAt (ParAt H) H lp ps ∧ ds.length ≤ 1000 ∧ ps.length ≤ 1000 ∧ ∀ tb H', Same H H' → H tb = none → TabP (fresh H H') tb b ds ps → Q (.ref tb) H'
theorem ok_table_of (B : Blt K mg tbl) (T : Txd K mg "table_of" s_table_of) (D_told_of_month : Df P w K mg base "told_of_month" ["length", "weekday", "days", "pairs"] 2 (sp_told_of_month K)) : Df P w K mg base "table_of" ["by", "days", "pairs"] 3 (sp_table_of K) := by
  obtain ⟨f, fd, F, hm⟩ := T.ex
  refine ⟨f, fd, F.ok sc_table_of (fun vs H Q E h => ?_) (fun cdv A outer s H vs Q E hr h => ⟨_, (pss_cons (ps_set (i := 3) sc_table_of.nd rfl (Or.inl rfl) pe_dnewT)
    (pss_cons (ps_if (pt_cmpR op_lt (pv 0) (pe_gc (by rfl) B.BY_MONTH) (nomark _))
     (pss_one (ps_ret (pv 3)))
     pss_nil)
    (pss_cons (ps_for PassesOwn.never rfl (pi_range2 (by rfl) B.b_range (pa_cons pe_int (pa_cons pe_int pa_nil))) (pg_name (i := 4) sc_table_of.nd rfl (Or.inl rfl))
     (pss_one (ps_for PassesOwn.never rfl (pi_range1 (by rfl) B.b_range (pa_cons pe_int pa_nil)) (pg_name (i := 5) sc_table_of.nd rfl (Or.inl rfl))
       (pss_one (ps_dput (hu_of hr) (pv 3) (pe_tup (pa_cons (pv 4) (pa_cons (pv 5) pa_nil))) (pe_callD D_told_of_month hr (by decide) (by rfl) (pa_cons (pv 4) (pa_cons (pv 5) (pa_cons (pv 1) (pa_cons (pv 2) pa_nil))))) rfl)))))
    (pss_one (ps_ret (pv 3)))))), ?_⟩), hm, F.kp, F.binds fun _ _ _ _ _ _ us hl => match us, hl with | [_, _, _], _ => rfl⟩
  · obtain ⟨a, b, c, _, _, rfl, _⟩ := h
    rfl
  · obtain ⟨b, ld, lp, ds, ps, rfl, hs, hp, hl, hpl, h⟩ := h
    intro T hT
    have S1 : Same H (upd H T (.dT [])) := Same.new hT
    have hT1 : upd H T (.dT []) T = some (.dT []) := upd_same
    generalize upd H T (.dT []) = H1 at *
    refine ⟨_, rfl, _, _, rfl, rfl, _, rfl, ?_⟩
    by_cases c : b < 2
    · refine ifT (decide_eq_true c) ?_
      exact ⟨_, rfl, h T H1 S1 hT ⟨[], by rw [fresh_at hT]; exact hT1, fun q => by omega⟩⟩
    refine ifF (decide_eq_false c) ?_
    refine ⟨_, _, rfl, ⟨by decide, by decide, by decide, by decide⟩, ?_⟩
    refine for_range (lo := 28) (n := 4) (fun i σ H' => (∃ v v', σ = [some (.int b), some (.ref ld), some (.ref lp), some (.ref T), v, v']) ∧ Same H H' ∧ ∃ kvs : List (List Key × V), H' T = some (.dT kvs) ∧ kvs.length ≤ 7 * i ∧ ∀ len wd : Int, 28 ≤ len → len < 28 + i → 0 ≤ wd → wd ≤ 6 → ∃ l, valV kvs [.inl len, .inl wd] = some (.ref l) ∧ H l = none ∧ H' l = some (.lst ((toldL ds ps len wd).map V.int))) ⟨⟨none, none, rfl⟩, S1, [], hT1, Nat.le_refl _, fun len wd a1 a2 => by omega⟩ ?_ ?_
    · rintro i σ H2 hi ⟨⟨v, v', rfl⟩, S2, kvs, hT2, kl, inv⟩
      refine ⟨_, rfl, by decide, by decide, ?_⟩
      refine for_range (lo := 0) (n := 7) (fun j σ H' => (∃ v', σ = [some (.int b), some (.ref ld), some (.ref lp), some (.ref T), some (.int (28 + i)), v']) ∧ Same H H' ∧ ∃ kvs : List (List Key × V), H' T = some (.dT kvs) ∧ kvs.length ≤ 7 * i + j ∧ ∀ len wd : Int, 28 ≤ len → (len < 28 + i ∨ (len = 28 + i ∧ wd < j)) → 0 ≤ wd → wd ≤ 6 → ∃ l, valV kvs [.inl len, .inl wd] = some (.ref l) ∧ H l = none ∧ H' l = some (.lst ((toldL ds ps len wd).map V.int))) ⟨⟨v', rfl⟩, S2, kvs, hT2, kl, fun len wd a1 a2 a3 a4 => inv len wd a1 (by omega) a3 a4⟩ ?_ ?_
      · rintro j σ H3 hj ⟨⟨v1, rfl⟩, S3, kvs, hT3, kl, inv⟩
        have hp3 : LstAt (ParAt H3) H3 lp ps := hp.same S3 fun _ _ q => q.same S3
        refine ⟨_, rfl, _, rfl, _, rfl, _, rfl, 28 + (i : Int), 0 + (j : Int), ld, lp, ds, ps, rfl, S3.seq hs, hp3, hl, hpl, by omega, by omega, fun q H4 s4 nq hq => ?_⟩
        refine ⟨_, rfl, _, rfl, _, rfl, len2, fun t ht => ?_⟩
        have hT4 := s4 _ _ hT3
        have nTt : T ≠ t := fun z => by rw [← z, hT4] at ht; cases ht
        have nqt : q ≠ t := fun z => by rw [← z, hq] at ht; cases ht
        have nqT : q ≠ T := fun z => by rw [z, hT4] at hq; cases hq
        have s5 : Same H4 (upd H4 t (.tup [.int (28 + i), .int (0 + j)])) := Same.new ht
        have hT5 := s5 _ _ hT4
        have hq5 := s5 _ _ hq
        have ht5 : upd H4 t (.tup [.int (28 + i), .int (0 + j)]) t = some (.tup [.int (28 + i), .int (0 + j)]) := upd_same
        generalize upd H4 t (.tup [.int (28 + i), .int (0 + j)]) = H5 at *
        refine ⟨T, _, rfl, DPut.t (k := [.inl (28 + (i : Int)), .inl (0 + (j : Int))]) hT5 ht5 (small_len (by omega)), ⟨_, rfl⟩, Same.put (S3.trans (s4.trans s5)) hT, _, upd_same, ?_, fun len wd a1 a2 a3 a4 => ?_⟩
        · have := putT_le kvs [.inl (28 + (i : Int)), .inl (0 + (j : Int))] (.ref q)
          omega
        · rw [valV_put]
          by_cases e : len = 28 + i ∧ wd = 0 + j
          · obtain ⟨rfl, rfl⟩ := e
            exact ⟨q, if_pos rfl, S3.free nq, by rw [upd_ne nqT]; exact hq5⟩
          · obtain ⟨l, b1, b2, b3⟩ := inv len wd a1 (by omega) a3 a4
            refine ⟨l, ?_, b2, ?_⟩
            · rw [if_neg]
              · exact b1
              · intro z
                injection z with z1 z2
                injection z2 with z2 _
                exact e ⟨Sum.inl.inj z1, Sum.inl.inj z2⟩
            · rw [upd_ne (fun z => by rw [z, hT3] at b3; cases b3)]
              exact s5 _ _ (s4 _ _ b3)
      · rintro σ H3 ⟨⟨v1, rfl⟩, S3, kvs, hT3, kl, inv⟩
        exact ⟨⟨_, _, rfl⟩, S3, kvs, hT3, by omega, fun len wd a1 a2 a3 a4 => inv len wd a1 (by omega) a3 a4⟩
    · rintro σ H2 ⟨⟨v, v', rfl⟩, S2, kvs, hT2, kl, inv⟩
      refine ⟨_, rfl, h T H2 S2 hT ⟨kvs, by rw [fresh_at hT]; exact hT2, fun _ len wd a1 a2 a3 a4 => ?_⟩⟩
      obtain ⟨l, b1, b2, b3⟩ := inv len wd a1 (by omega) a3 a4
      exact ⟨l, b1, by rw [fresh_at b2]; exact b3⟩
/-! ## A recurrence at an address -/
def reF (b e f la fm : Int) (lm lo tb : Addr) : List (Str × V) := [("by", .int b), ("every", .int e), ("first", .int f), ("last", .int la), ("first_month", .int fm), ("months", .ref lm), ("origins", .ref lo), ("table", .ref tb)]
theorem reF_by {b e f la fm : Int} {lm lo tb : Addr} : (reF b e f la fm lm lo tb).lookup ("by" : Str) = some (.int b) := lk_here
theorem reF_every {b e f la fm : Int} {lm lo tb : Addr} : (reF b e f la fm lm lo tb).lookup ("every" : Str) = some (.int e) := (lk_past (by decide +kernel)).trans lk_here
theorem reF_first {b e f la fm : Int} {lm lo tb : Addr} : (reF b e f la fm lm lo tb).lookup ("first" : Str) = some (.int f) := (lk_past (by decide +kernel)).trans ((lk_past (by decide +kernel)).trans lk_here)
theorem reF_last {b e f la fm : Int} {lm lo tb : Addr} : (reF b e f la fm lm lo tb).lookup ("last" : Str) = some (.int la) := (lk_past (by decide +kernel)).trans ((lk_past (by decide +kernel)).trans ((lk_past (by decide +kernel)).trans lk_here))
theorem reF_fm {b e f la fm : Int} {lm lo tb : Addr} : (reF b e f la fm lm lo tb).lookup ("first_month" : Str) = some (.int fm) := (lk_past (by decide +kernel)).trans ((lk_past (by decide +kernel)).trans ((lk_past (by decide +kernel)).trans ((lk_past (by decide +kernel)).trans lk_here)))
theorem reF_months {b e f la fm : Int} {lm lo tb : Addr} : (reF b e f la fm lm lo tb).lookup ("months" : Str) = some (.ref lm) := (lk_past (by decide +kernel)).trans ((lk_past (by decide +kernel)).trans ((lk_past (by decide +kernel)).trans ((lk_past (by decide +kernel)).trans ((lk_past (by decide +kernel)).trans lk_here))))
theorem reF_origins {b e f la fm : Int} {lm lo tb : Addr} : (reF b e f la fm lm lo tb).lookup ("origins" : Str) = some (.ref lo) := (lk_past (by decide +kernel)).trans ((lk_past (by decide +kernel)).trans ((lk_past (by decide +kernel)).trans ((lk_past (by decide +kernel)).trans ((lk_past (by decide +kernel)).trans ((lk_past (by decide +kernel)).trans lk_here)))))
theorem reF_table {b e f la fm : Int} {lm lo tb : Addr} : (reF b e f la fm lm lo tb).lookup ("table" : Str) = some (.ref tb) := (lk_past (by decide +kernel)).trans ((lk_past (by decide +kernel)).trans ((lk_past (by decide +kernel)).trans ((lk_past (by decide +kernel)).trans ((lk_past (by decide +kernel)).trans ((lk_past (by decide +kernel)).trans ((lk_past (by decide +kernel)).trans lk_here))))))
structure Rez (K : PySem.W.Frag) (cR : Addr) : Prop where
  cl : Cls K cR
  n1 : NoAttr K cR "by"
  n2 : NoAttr K cR "every"
  n3 : NoAttr K cR "first"
  n4 : NoAttr K cR "last"
  n5 : NoAttr K cR "first_month"
  n6 : NoAttr K cR "months"
  n7 : NoAttr K cR "origins"
  n8 : NoAttr K cR "table"
/-- all that stood stands but for one place; nothing is forgotten -/
structure Grow (H H' : Hp) (p : Addr) : Prop where
  fr : ∀ b o, b ≠ p → H b = some o → H' b = some o
  fe : ∀ q, H' q = none → H q = none
theorem Grow.refl (H : Hp) (p : Addr) : Grow H H p := ⟨fun _ _ _ e => e, fun _ e => e⟩
theorem Grow.same {H H' H'' : Hp} {p : Addr} (g : Grow H H' p) (s : Same H' H'') : Grow H H'' p := ⟨fun b o n e => s _ _ (g.fr b o n e), fun q e => g.fe q (s.free e)⟩
theorem Grow.put {H H' : Hp} {p : Addr} {o o' : HO} (g : Grow H H' p) (h : H' p = some o) : Grow H (upd H' p o') p := ⟨fun b u n e => by rw [upd_ne n]; exact g.fr b u n e, fun q e => by
  by_cases z : q = p
  · rw [z, upd_same] at e
    cases e
  · rw [upd_ne z] at e
    exact g.fe q e⟩
theorem fresh_put {H H' : Hp} {p : Addr} {o o' : HO} (h : H p = some o) : fresh H (upd H' p o') = fresh H H' := by
  funext b
  unfold fresh
  by_cases z : b = p
  · rw [z, h]
    rfl
  · rw [upd_ne z]
/-- fresh since a later time: fresh since an earlier one -/
theorem fresh_grow {H H' H'' : Hp} {p : Addr} (g : Grow H H' p) : Same (fresh H' H'') (fresh H H'') := fun b o e => by
  unfold fresh at e ⊢
  split at e
  · next q => rw [if_pos (g.fe b q)]; exact e
  · cases e
def M12 : List Int := [1, 2, 3, 4, 5, 6, 7, 8, 9, 10, 11, 12]
abbrev s_Recurrence : Stmt := inClass (topS 53) 0
theorem sc_Recurrence : FnScope ["self", "by", "every", "first", "last", "days", "months", "pairs"] ["self", "by", "every", "first", "last", "days", "months", "pairs"] (defScope s_Recurrence) := ⟨rfl, rfl, rfl, by decide +kernel, rfl, by decide +kernel, by decide +kernel⟩
def sp_Recurrence (K : PySem.W.Frag) (cR : Addr) : Sp := fun vs H Q _ => ∃ (p dx ld lm lp : Addr) (b e f la : Int) (ds ms : List Int) (ps : List (Int × Int)), vs = [.ref p, .int b, .int e, .int f, .int la, .ref ld, .ref lm, .ref lp] ∧ H p = some (.ins cR dx []) ∧ H ld = some (.lst (ds.map V.int)) ∧ H lm = some (.lst (ms.map V.int)) ∧ LstAt (ParAt H) H lp ps ∧ ds.length ≤ 1000 ∧ ps.length ≤ 1000 ∧ Cal f ∧
  ∀ (H' : Hp) (lm' lo tb : Addr), Grow H H' p → H' p = some (.ins cR dx (reF b e f la (monNo f) lm' lo tb)) → (ms.isEmpty = false → lm' = lm) → (ms.isEmpty = true → fresh H H' lm' = some (.lst (M12.map V.int))) → fresh H H' lo = some (.lst ((origP b f ds).map V.int)) → TabP (fresh H H') tb b ds ps → Q .non H'
theorem ok_Recurrence (B : Blt K mg tbl) (R : Rez K C_Recurrence) (T : Txc K mg "Recurrence" C_Recurrence "Recurrence.__init__" s_Recurrence) (D_month_number : Df P w K mg base "month_number" ["n"] 4 (sp_month_number)) (D_origins_of : Df P w K mg base "origins_of" ["by", "first", "days"] 2 (sp_origins_of K)) (D_table_of : Df P w K mg base "table_of" ["by", "days", "pairs"] 3 (sp_table_of K)) : Dc P w K mg base "Recurrence" C_Recurrence ["self", "by", "every", "first", "last", "days", "months", "pairs"] 5 (sp_Recurrence K C_Recurrence) := by
  obtain ⟨f, fd, F, M, hm⟩ := T.ex
  refine ⟨f, fd, F.ok sc_Recurrence (fun vs H Q E h => ?_) (fun cdv A outer s H vs Q E hr h => ⟨_, (pss_cons (ps_fld (pv 0) (pv 1) rfl)
    (pss_cons (ps_fld (pv 0) (pv 2) rfl)
    (pss_cons (ps_fld (pv 0) (pv 3) rfl)
    (pss_cons (ps_fld (pv 0) (pv 4) rfl)
    (pss_cons (ps_fld (pv 0) (pe_callD D_month_number hr (by decide) (by rfl) (pa_cons (pv 3) pa_nil)) rfl)
    (pss_cons (ps_fld (pv 0) (pe_ifExp (pt_cmpR op_gt (pe_callB call_len_seq (by rfl) B.b_len (by decide +kernel) (pa_cons (pv 6) pa_nil)) pe_int (nomark _)) (pv 6) (pe_listRg rfl (by rfl) B.b_list (prg_2 (by rfl) B.b_range pe_int pe_int))) rfl)
    (pss_cons (ps_fld (pv 0) (pe_callD D_origins_of hr (by decide) (by rfl) (pa_cons (pv 1) (pa_cons (pv 3) (pa_cons (pv 5) pa_nil)))) rfl)
    (pss_one (ps_fld (pv 0) (pe_callD D_table_of hr (by decide) (by rfl) (pa_cons (pv 1) (pa_cons (pv 5) (pa_cons (pv 7) pa_nil)))) rfl))))))))), ?_⟩), M, hm, F.binds fun _ _ _ _ _ _ us hl => match us, hl with | [_, _, _, _, _, _, _, _], _ => rfl⟩
  · obtain ⟨p, dx, ld, lm, lp, b, e, f, la, ds, ms, ps, rfl, _⟩ := h
    rfl
  · obtain ⟨p, dx, ld, lm, lp, b, e, f, la, ds, ms, ps, rfl, hp, hd, hm, hps, hl, hpl, c, h⟩ := h
    have nd : ld ≠ p := fun z => by rw [z, hp] at hd; cases hd
    have nm : lm ≠ p := fun z => by rw [z, hp] at hm; cases hm
    have lps : ∀ H', Grow H H' p → LstAt (ParAt H') H' lp ps := by
      intro H' g
      obtain ⟨as, h1, h2, h3⟩ := hps
      refine ⟨as, g.fr _ _ (fun z => by rw [z, hp] at h1; cases h1) h1, h2, fun i a x ea ex => ?_⟩
      have := h3 i a x ea ex
      exact g.fr _ _ (fun z => by unfold ParAt at this; rw [z, hp] at this; cases this) this
    have G0 := Grow.refl H p
    refine ⟨_, rfl, _, rfl, p, _, dx, _, rfl, hp, R.cl, R.n1, by decide, ?_⟩
    have G1 : Grow H _ p := G0.put (o' := .ins C_Recurrence dx (putF "by" (.int b) [])) hp
    refine ⟨_, rfl, _, rfl, p, _, dx, _, rfl, upd_same, R.cl, R.n2, (by show 1 < 1000; decide), ?_⟩
    rw [upd_upd]
    refine ⟨_, rfl, _, rfl, p, _, dx, _, rfl, upd_same, R.cl, R.n3, (by show 2 < 1000; decide), ?_⟩
    rw [upd_upd]
    refine ⟨_, rfl, _, rfl, p, _, dx, _, rfl, upd_same, R.cl, R.n4, (by show 3 < 1000; decide), ?_⟩
    rw [upd_upd]
    have G4 : Grow H (upd H p (.ins C_Recurrence dx [("by", .int b), ("every", .int e), ("first", .int f), ("last", .int la)])) p := G0.put hp
    have f4 : fresh H (upd H p (.ins C_Recurrence dx [("by", .int b), ("every", .int e), ("first", .int f), ("last", .int la)])) = fresh H H := fresh_put hp
    have hp4 : upd H p (.ins C_Recurrence dx [("by", .int b), ("every", .int e), ("first", .int f), ("last", .int la)]) p = some (.ins C_Recurrence dx [("by", .int b), ("every", .int e), ("first", .int f), ("last", .int la)]) := upd_same
    change tSeq _ _ _ _ (upd H p (.ins C_Recurrence dx [("by", .int b), ("every", .int e), ("first", .int f), ("last", .int la)]))
    generalize upd H p (.ins C_Recurrence dx [("by", .int b), ("every", .int e), ("first", .int f), ("last", .int la)]) = H4 at *
    -- self.first_month = month_number(first)
    refine ⟨_, rfl, f, rfl, c, fun H5 s5 => ?_⟩
    refine ⟨_, rfl, p, _, dx, _, rfl, s5 _ _ hp4, R.cl, R.n5, (by show 4 < 1000; decide), ?_⟩
    have G6 : Grow H (upd H5 p (.ins C_Recurrence dx [("by", .int b), ("every", .int e), ("first", .int f), ("last", .int la), ("first_month", .int (monNo f))])) p := (G4.same s5).put (s5 _ _ hp4)
    have hp6 : upd H5 p (.ins C_Recurrence dx [("by", .int b), ("every", .int e), ("first", .int f), ("last", .int la), ("first_month", .int (monNo f))]) p = some (.ins C_Recurrence dx [("by", .int b), ("every", .int e), ("first", .int f), ("last", .int la), ("first_month", .int (monNo f))]) := upd_same
    change tSeq _ _ _ _ (upd H5 p (.ins C_Recurrence dx [("by", .int b), ("every", .int e), ("first", .int f), ("last", .int la), ("first_month", .int (monNo f))]))
    generalize upd H5 p (.ins C_Recurrence dx [("by", .int b), ("every", .int e), ("first", .int f), ("last", .int la), ("first_month", .int (monNo f))]) = H6 at *
    -- self.months = months if len(months) > 0 else list(range(1, 13))
    refine ⟨_, rfl, lm, _, rfl, .inl (SqL.of (G6.fr _ _ nm hm)), _, _, rfl, rfl, _, rfl, ?_⟩
    rw [List.length_map]
    by_cases e0 : 0 < (ms.length : Int)
    case' pos =>
      refine ifT (decide_eq_true e0) ?_
      refine ⟨_, rfl, ?_⟩
      have m1 : ms.isEmpty = false → lm = lm := fun _ => rfl
      have m2 : ms.isEmpty = true → fresh H H6 lm = some (.lst (M12.map V.int)) := fun q => by
        have := List.isEmpty_iff_length_eq_zero.mp q
        omega
      have G7 := G6
      have hp7 := hp6
      obtain ⟨lm', elm⟩ : ∃ z, z = lm := ⟨_, rfl⟩
      obtain ⟨H7, eH7⟩ : ∃ z, z = H6 := ⟨_, rfl⟩
      rw [← elm] at m2 ⊢
      replace m1 : ms.isEmpty = false → lm' = lm := fun _ => elm
      rw [← eH7] at m2 G7 hp7 ⊢
    case' neg =>
      refine ifF (decide_eq_false e0) ?_
      refine ⟨_, _, rfl, rfl, ⟨by decide, by decide, by decide, by decide, by decide⟩, fun lm' hlm' => ?_⟩
      have me : ms.isEmpty = true := List.isEmpty_iff_length_eq_zero.mpr (by omega)
      have m1 : ms.isEmpty = false → lm' = lm := fun q => by rw [me] at q; cases q
      have s7 : Same H6 (upd H6 lm' (.lst (rgV 1 13))) := Same.new hlm'
      have m2 : ms.isEmpty = true → fresh H (upd H6 lm' (.lst (rgV 1 13))) lm' = some (.lst (M12.map V.int)) := fun _ => by
        rw [fresh_at (G6.fe _ hlm'), upd_same]
        rfl
      have G7 := G6.same s7
      have hp7 := s7 _ _ hp6
      generalize upd H6 lm' (.lst (rgV 1 13)) = H7 at *
    all_goals
      refine ⟨_, rfl, p, _, dx, _, rfl, hp7, R.cl, R.n6, (by show 5 < 1000; decide), ?_⟩
      have G8 : Grow H (upd H7 p (.ins C_Recurrence dx [("by", .int b), ("every", .int e), ("first", .int f), ("last", .int la), ("first_month", .int (monNo f)), ("months", .ref lm')])) p := G7.put hp7
      have hp8 : upd H7 p (.ins C_Recurrence dx [("by", .int b), ("every", .int e), ("first", .int f), ("last", .int la), ("first_month", .int (monNo f)), ("months", .ref lm')]) p = some (.ins C_Recurrence dx [("by", .int b), ("every", .int e), ("first", .int f), ("last", .int la), ("first_month", .int (monNo f)), ("months", .ref lm')]) := upd_same
      have f8 : fresh H (upd H7 p (.ins C_Recurrence dx [("by", .int b), ("every", .int e), ("first", .int f), ("last", .int la), ("first_month", .int (monNo f)), ("months", .ref lm')])) = fresh H H7 := fresh_put hp
      rw [← f8] at m2
      change tSeq _ _ _ _ (upd H7 p (.ins C_Recurrence dx [("by", .int b), ("every", .int e), ("first", .int f), ("last", .int la), ("first_month", .int (monNo f)), ("months", .ref lm')]))
      generalize upd H7 p (.ins C_Recurrence dx [("by", .int b), ("every", .int e), ("first", .int f), ("last", .int la), ("first_month", .int (monNo f)), ("months", .ref lm')]) = H8 at *
      refine ⟨_, rfl, _, rfl, _, rfl, b, f, ld, ds, rfl, SqL.of (G8.fr _ _ nd hd), hl, fun lo H9 s9 nlo hlo => ?_⟩
      refine ⟨_, rfl, p, _, dx, _, rfl, s9 _ _ hp8, R.cl, R.n7, (by show 6 < 1000; decide), ?_⟩
      have G9 := G8.same s9
      have m2' : ms.isEmpty = true → fresh H H9 lm' = some (.lst (M12.map V.int)) := fun q => fresh_mono s9 _ _ (m2 q)
      have o9 : fresh H H9 lo = some (.lst ((origP b f ds).map V.int)) := by
        rw [fresh_at (G8.fe _ nlo)]
        exact hlo
      have G10 : Grow H (upd H9 p (.ins C_Recurrence dx [("by", .int b), ("every", .int e), ("first", .int f), ("last", .int la), ("first_month", .int (monNo f)), ("months", .ref lm'), ("origins", .ref lo)])) p := G9.put (s9 _ _ hp8)
      have hp10 : upd H9 p (.ins C_Recurrence dx [("by", .int b), ("every", .int e), ("first", .int f), ("last", .int la), ("first_month", .int (monNo f)), ("months", .ref lm'), ("origins", .ref lo)]) p = some (.ins C_Recurrence dx [("by", .int b), ("every", .int e), ("first", .int f), ("last", .int la), ("first_month", .int (monNo f)), ("months", .ref lm'), ("origins", .ref lo)]) := upd_same
      have f10 : fresh H (upd H9 p (.ins C_Recurrence dx [("by", .int b), ("every", .int e), ("first", .int f), ("last", .int la), ("first_month", .int (monNo f)), ("months", .ref lm'), ("origins", .ref lo)])) = fresh H H9 := fresh_put hp
      rw [← f10] at m2' o9
      rw [show putF ("origins" : Str) (V.ref lo) [("by", .int b), ("every", .int e), ("first", .int f), ("last", .int la), ("first_month", .int (monNo f)), ("months", .ref lm')] = ([("by", .int b), ("every", .int e), ("first", .int f), ("last", .int la), ("first_month", .int (monNo f)), ("months", .ref lm'), ("origins", .ref lo)] : List (Str × V)) from rfl]
      generalize upd H9 p (.ins C_Recurrence dx [("by", .int b), ("every", .int e), ("first", .int f), ("last", .int la), ("first_month", .int (monNo f)), ("months", .ref lm'), ("origins", .ref lo)]) = H10 at *
      refine ⟨_, rfl, _, rfl, _, rfl, b, ld, lp, ds, ps, rfl, SqL.of (G10.fr _ _ nd hd), lps _ G10, hl, hpl, fun tb H11 s11 ntb htb => ?_⟩
      refine ⟨_, rfl, p, _, dx, _, rfl, s11 _ _ hp10, R.cl, R.n8, (by show 7 < 1000; decide), ?_⟩
      refine h _ lm' lo tb ((G10.same s11).put (s11 _ _ hp10)) upd_same m1 (fun q => ?_) ?_ ?_
      · rw [fresh_put hp]
        exact fresh_mono s11 _ _ (m2' q)
      · rw [fresh_put hp]
        exact fresh_mono s11 _ _ o9
      · rw [fresh_put hp]
        exact htb.same (fresh_grow G10)
end
end Cc
set_option Elab.async false
set_option maxRecDepth 100000
set_option maxHeartbeats 2000000
set_option linter.unusedSimpArgs false
set_option linter.unusedVariables false
namespace Cc
open PySem PySem.Spec PyProof.Rows L2
section
variable {P : Program} {w : World} {K : PySem.W.Frag} {mg : Str → Option Value} {base : Heap} {tbl C_Recurrence : Addr}
/-- a recurrence at an address -/
def RecAt (cR : Addr) (H : Hp) (a : Addr) (r : Rc) : Prop := ∃ dx lm lo tb, H a = some (.ins cR dx (reF r.by_ r.every r.from_ r.last (monNo r.from_) lm lo tb)) ∧ H lm = some (.lst (r.mons.map V.int)) ∧ H lo = some (.lst (r.orig.map V.int)) ∧ TabP H tb r.by_ r.days r.pairs
theorem RecAt.same {cR : Addr} {H H' : Hp} {a : Addr} {r : Rc} (s : Same H H') (h : RecAt cR H a r) : RecAt cR H' a r := by
  obtain ⟨dx, lm, lo, tb, h1, h2, h3, h4⟩ := h
  exact ⟨dx, lm, lo, tb, s _ _ h1, s _ _ h2, s _ _ h3, h4.same s⟩
theorem rgc0 {k : Nat} (h : k ≤ 1000) : RgC 0 (2 * (k : Int)) 2 k := by
  refine rgcs (by decide) (by decide) (by decide) (by decide) (by omega) (by omega) (by omega) ?_
  unfold Builtin.Range.rangeSize
  rw [if_pos (by decide)]
  split <;> omega
abbrev s_recurrence_from : Stmt := topS 54
theorem sc_recurrence_from : FnScope ["numbers", "lists", "by", "days", "months", "pairs", "last", "at"] ["numbers"] (defScope s_recurrence_from) := ⟨rfl, rfl, rfl, by decide +kernel, rfl, by decide +kernel, by decide +kernel⟩
def sp_recurrence_from (K : PySem.W.Frag) (cR : Addr) : Sp := fun vs H Q _ => ∃ (a : Addr) (ns : List Int), vs = [.ref a] ∧ SqL K H a (ns.map V.int) ∧ ns.length ≤ 1000 ∧ (Tm.recurOf ns = none → ∀ H', Same H H' → Q .non H') ∧
  (∀ r : Rc, Tm.recurOf ns = some r.to → r.Ok → ∀ p H', Same H H' → H p = none → RecAt cR (fresh H H') p r → Q (.ref p) H')
theorem ok_recurrence_from (B : Blt K mg tbl) (R : Rez K C_Recurrence) (T : Txd K mg "recurrence_from" s_recurrence_from) (D_lists_from : Df P w K mg base "lists_from" ["numbers"] 1 (sp_lists_from K)) (M_Recurrence : Dc P w K mg base "Recurrence" C_Recurrence ["self", "by", "every", "first", "last", "days", "months", "pairs"] 5 (sp_Recurrence K C_Recurrence)) (D_are_ahead : Df P w K mg base "are_ahead" ["numbers"] 2 (sp_are_ahead K)) (D_are_days : Df P w K mg base "are_days" ["by", "days"] 3 (sp_are_days K)) (D_are_months : Df P w K mg base "are_months" ["months"] 3 (sp_are_months K)) (D_are_pairs : Df P w K mg base "are_pairs" ["by", "pairs"] 2 (sp_are_pairs K)) : Df P w K mg base "recurrence_from" ["numbers"] 7 (sp_recurrence_from K C_Recurrence) := by
  obtain ⟨f, fd, F, hm⟩ := T.ex
  refine ⟨f, fd, F.ok sc_recurrence_from (fun vs H Q E h => ?_) (fun cdv A outer s H vs Q E hr h => ⟨_, (pss_cons (ps_set (i := 1) sc_recurrence_from.nd rfl (Or.inr rfl) (pe_callD D_lists_from hr (by decide) (by rfl) (pa_cons (pv 0) pa_nil)))
    (pss_cons (ps_if (PW.pt (pw_or (pt_cmpR op_isN (pv 1) pe_non (nomark _)) (pw_or1 (pt_not (pt_val (pe_callD D_are_ahead hr (by decide) (by rfl) (pa_cons (pv 0) pa_nil)))))))
     (pss_one (ps_ret pe_non))
     pss_nil)
    (pss_cons (ps_set (i := 2) sc_recurrence_from.nd rfl (Or.inl rfl) (pe_ix ix_list (pv 0) pe_int (fun _ _ => rfl)))
    (pss_cons (ps_set (i := 3) sc_recurrence_from.nd rfl (Or.inl rfl) (pe_ix ix_list (pv 1) pe_int (fun _ _ => rfl)))
    (pss_cons (ps_set (i := 4) sc_recurrence_from.nd rfl (Or.inl rfl) (pe_ix ix_list (pv 1) pe_int (fun _ _ => rfl)))
    (pss_cons (ps_setLc (i := 5) (own := [("at", 7)]) (g := gName 7) (tt := tYes) (te := (tTup (tCons (tOp (rIxL K) (tOp (rIxL K) (tVar 1) (tC (.int 2))) (tVar 7)) (tCons (tOp (rIxL K) (tOp (rIxL K) (tVar 1) (tC (.int 2))) (tOp (rI0 fun i j => V.int (i + j)) (tVar 7) (tC (.int 1)))) tNil)))) rfl sc_recurrence_from.nd rfl rfl (sw_true rfl rfl rfl (by decide +kernel)) (pi_range3 (by rfl) B.b_range (pa_cons pe_int (pa_cons (pe_callB call_len_seq (by rfl) B.b_len (by decide +kernel) (pa_cons (pe_ix ix_list (pv 1) pe_int (fun _ _ => rfl)) pa_nil)) (pa_cons pe_int pa_nil)))) (blkOk_by (own := [("at", 7)]) (N := ["numbers", "lists", "by", "days", "months", "pairs", "last", "at"]) (sc := defScope s_recurrence_from) (by decide +kernel)) (fun _ _ _ _ _ => pg_name (i := 7) sc_recurrence_from.nd rfl (Or.inl rfl)) (fun _ _ _ _ _ => pts_nil) (fun _ _ _ _ _ => (pe_tup (pa_cons (pe_ix ix_list (pe_ix ix_list (pv 1) pe_int (fun _ _ => rfl)) (pv 7) (fun _ _ => rfl)) (pa_cons (pe_ix ix_list (pe_ix ix_list (pv 1) pe_int (fun _ _ => rfl)) (pe_op op_add (pv 7) pe_int) (fun _ _ => rfl)) pa_nil)))))
    (pss_cons (ps_if (pt_not (PW.pt (pw_and (pt_val (pe_callD D_are_days hr (by decide) (by rfl) (pa_cons (pv 2) (pa_cons (pv 3) pa_nil)))) (pw_and (pt_val (pe_callD D_are_months hr (by decide) (by rfl) (pa_cons (pv 4) pa_nil))) (pw_and1 (pt_val (pe_callD D_are_pairs hr (by decide) (by rfl) (pa_cons (pv 2) (pa_cons (pv 5) pa_nil)))))))))
     (pss_one (ps_ret pe_non))
     pss_nil)
    (pss_cons (ps_if (PW.pt (pw_and (pt_cmpR op_ge (pv 2) (pe_gc (by rfl) B.BY_MONTH) (nomark _)) (pw_and (pt_cmpR op_eq (pe_callB call_len_seq (by rfl) B.b_len (by decide +kernel) (pa_cons (pv 3) pa_nil)) pe_int (nomark _)) (pw_and1 (pt_cmpR op_eq (pe_callB call_len_seq (by rfl) B.b_len (by decide +kernel) (pa_cons (pv 5) pa_nil)) pe_int (nomark _))))))
     (pss_one (ps_ret pe_non))
     pss_nil)
    (pss_cons (ps_set (i := 6) sc_recurrence_from.nd rfl (Or.inl rfl) (pe_ifExp (pt_cmpR op_eq (pe_ix ix_list (pv 0) pe_int (fun _ _ => rfl)) pe_int (nomark _)) (pe_ix ix_list (pv 0) pe_int (fun _ _ => rfl)) (pe_gc (by rfl) B.LAST_DAY)))
    (pss_one (ps_ret (pe_makeD M_Recurrence hr (by decide) (by rfl) (pa_cons (pv 2) (pa_cons (pe_ix ix_list (pv 0) pe_int (fun _ _ => rfl)) (pa_cons (pe_ix ix_list (pv 0) pe_int (fun _ _ => rfl)) (pa_cons (pv 6) (pa_cons (pv 3) (pa_cons (pv 4) (pa_cons (pv 5) pa_nil))))))))))))))))))), ?_⟩), hm, F.kp, F.binds fun _ _ _ _ _ _ us hl => match us, hl with | [_], _ => rfl⟩
  · obtain ⟨a, ns, rfl, _⟩ := h
    rfl
  · obtain ⟨a, ns, rfl, hs, hl, hN, hS⟩ := h
    refine ⟨_, rfl, a, ns, rfl, hs, hl, fun e H1 s1 => ?_, fun nd nm nq S p l1 l2 l3 H1 s1 n1 n2 n3 hp h1 h2 h3 => ?_⟩
    · refine ⟨_, rfl, rfl, _, rfl, ifT (c := true) rfl (ifT (c := true) rfl ?_)⟩
      exact hN (recur_none_shape e) H1 s1
    refine ⟨_, rfl, rfl, _, rfl, ifF (c := false) rfl ?_⟩
    have hs1 := s1.seq hs
    have sl := S.len
    have sd := S.d62
    have sm := S.m12
    have sq := S.q70
    have iff := ok_iff (ns := ns) (nd := nd) (nm := nm) (nq := nq)
    have key := recurOf_some S
    have bad : ∀ H', Same H H' → ¬ (rcOf ns nd nm nq).Ok → Q .non H' := fun H' s q => hN (recur_none_ok S q) H' s
    have at_i : ∀ k : Nat, k < 5 → atI (ns.map V.int) (k : Int) = some (.int (ns.getD k 0)) := fun k hk => at_k rfl (by omega)
    have a0 := at_i 0 (by omega)
    have a1 := at_i 1 (by omega)
    have a2 := at_i 2 (by omega)
    have a3 := at_i 3 (by omega)
    have a4 := at_i 4 (by omega)
    refine ⟨_, rfl, a, ns, rfl, hs1, by omega, _, rfl, ?_⟩
    cases ea : aheadOk ns with
    | false =>
      refine ifT (c := true) rfl ?_
      exact bad _ s1 fun ok => by have := (iff.mp ok).1; rw [ea] at this; cases this
    | true =>
    refine ifF (c := false) rfl ?_
    refine ⟨_, rfl, a, _, _, _, rfl, rfl, hs1, a0, ?_⟩
    refine ⟨_, rfl, p, _, _, _, rfl, rfl, SqL.of hp, rfl, ?_⟩
    refine ⟨_, rfl, p, _, _, _, rfl, rfl, SqL.of hp, rfl, ?_⟩
    -- pairs
    have L3 : (((ns.drop (8 + nd + nm)).take (2 * nq)).map V.int).length = 2 * nq := by
      rw [List.length_map, List.length_take, List.length_drop]
      omega
    have L3' : ((ns.drop (8 + nd + nm)).take (2 * nq)).length = 2 * nq := by
      rw [List.length_map] at L3
      exact L3
    have ps_get : ∀ i, i < nq → (chgs nq (ns.drop (8 + nd + nm)))[i]? = some (((ns.drop (8 + nd + nm)).take (2 * nq)).getD (2 * i) 0, ((ns.drop (8 + nd + nm)).take (2 * nq)).getD (2 * i + 1) 0) := by
      intro i hi
      rw [chgs_two nq _ (by rw [List.length_drop]; omega)]
      exact chgs_get nq _ i hi (by omega)
    have ps_len : (chgs nq (ns.drop (8 + nd + nm))).length = nq := chgs_len nq _ (by rw [List.length_drop]; omega)
    have er : rcOf ns nd nm nq = ⟨ns.getD 0 0, ns.getD 1 0, ns.getD 2 0, ns.getD 3 0, ns.getD 4 0, (ns.drop 6).take nd, (ns.drop (7 + nd)).take nm, chgs nq (ns.drop (8 + nd + nm))⟩ := rfl
    generalize rcOf ns nd nm nq = r at *
    generalize (ns.drop (8 + nd + nm)).take (2 * nq) = q3 at *
    generalize eps : chgs nq (ns.drop (8 + nd + nm)) = ps at *
    have dlen : ((ns.drop 6).take nd).length ≤ 1000 := by rw [List.length_take]; omega
    have mlen' : ((ns.drop (7 + nd)).take nm).length ≤ 1000 := by rw [List.length_take]; omega
    generalize (ns.drop 6).take nd = ds at *
    generalize (ns.drop (7 + nd)).take nm = ms at *
    refine ⟨_, rfl, p, _, _, _, rfl, rfl, SqL.of hp, rfl, l3, _, rfl, .inl (SqL.of h3), 0, ((q3.map V.int).length : Int), 2, nq, rfl, by rw [L3, Int.natCast_mul]; exact rgc0 (by omega), fun D hD => lc_steps (lo := 0) (st := 2) (n := nq) (fun i H' => Same H1 H' ∧ ∃ as : List Addr, H' D = some (.lst (as.map V.ref)) ∧ as.length = i ∧ ∀ (j : Nat) (b : Addr) (x : Int × Int), as[j]? = some b → ps[j]? = some x → ParAt H' b x) ⟨Same.new hD, [], upd_same, rfl, fun j b x e => by cases e⟩ ?_ ?_⟩
    · rintro i H' hi ⟨s, as, hd, al, inv⟩
      refine ⟨rfl, ?_⟩
      simp only [tYes, if_true]
      refine ⟨_, rfl, p, _, _, _, rfl, rfl, SqL.of (s _ _ hp), rfl, _, rfl, l3, _, _, _, rfl, rfl, SqL.of (s _ _ h3), at_k (k := 2 * i) (by omega) (by omega), ?_⟩
      refine ⟨_, rfl, p, _, _, _, rfl, rfl, SqL.of (s _ _ hp), rfl, _, rfl, _, _, rfl, rfl, l3, _, _, _, rfl, rfl, SqL.of (s _ _ h3), at_k (k := 2 * i + 1) (by omega) (by omega), ?_⟩
      refine ⟨len2, fun t ht => ?_⟩
      have ntD : t ≠ D := fun z => by rw [z, hd] at ht; cases ht
      have st : Same H' (upd H' t (.tup [.int (q3.getD (2 * i) 0), .int (q3.getD (2 * i + 1) 0)])) := Same.new ht
      refine ⟨_, st _ _ hd, by rw [List.length_map]; exact small_len (by omega), Same.put (s.trans st) hD, as ++ [t], ?_, by rw [List.length_append, al]; rfl, fun j b x eb ex => ?_⟩
      · rw [upd_same, List.map_append]
        rfl
      · rcases get_app eb with eb | ⟨rfl, rfl⟩
        · have hb := inv j b x eb ex
          unfold ParAt at hb ⊢
          rw [upd_ne (fun z => by rw [z, hd] at hb; cases hb)]
          exact st _ _ hb
        · rw [al, ps_get i hi] at ex
          cases ex
          unfold ParAt
          rw [upd_ne ntD, upd_same]
    · rintro H2 ⟨s2, as, hd2, al, inv⟩
      have LP : LstAt (ParAt H2) H2 D ps := ⟨as, hd2, by omega, inv⟩
      have S2 := s1.trans s2
      have hs2 := S2.seq hs
      have h1' := s2 _ _ h1
      have h2' := s2 _ _ h2
      -- not (are_days(by, days) and are_months(months) and are_pairs(by, pairs))
      refine ⟨_, rfl, _, rfl, ns.getD 0 0, l1, ds, rfl, SqL.of h1', dlen, _, rfl, ?_⟩
      rw [er] at iff
      cases e1 : daysOkP (ns.getD 0 0) ds with
      | false =>
        refine ifF (c := false) rfl (ifT (c := true) rfl ?_)
        exact bad _ S2 fun ok => by rw [er] at ok; have := (iff.mp ok).2.1; rw [e1] at this; cases this
      | true =>
      refine ifT (c := true) rfl ?_
      refine ⟨_, rfl, l2, ms, rfl, SqL.of h2', mlen', _, rfl, ?_⟩
      cases e2 : risW ms 1 12 with
      | false =>
        refine ifF (c := false) rfl (ifT (c := true) rfl ?_)
        exact bad _ S2 fun ok => by rw [er] at ok; have := (iff.mp ok).2.2.1; rw [e2] at this; cases this
      | true =>
      refine ifT (c := true) rfl ?_
      refine ⟨_, rfl, _, rfl, ns.getD 0 0, D, ps, rfl, LP, by omega, _, rfl, ?_⟩
      cases e3 : parsOkP (ns.getD 0 0) ps with
      | false =>
        refine ifT (c := true) rfl ?_
        exact bad _ S2 fun ok => by rw [er] at ok; have := (iff.mp ok).2.2.2.1; rw [e3] at this; cases this
      | true =>
      refine ifF (c := false) rfl ?_
      -- by >= BY_MONTH and len(days) == 0 and len(pairs) == 0
      have tail : ¬ (2 ≤ ns.getD 0 0 ∧ ds.length = 0 ∧ ps.length = 0) → r.Ok := fun q => by
        rw [er]
        exact iff.mpr ⟨ea, e1, e2, e3, q⟩
      have last : r.last = if ns.getD 3 0 = 1 then ns.getD 4 0 else 2932896 := by rw [er]; rfl
      refine ⟨_, rfl, _, _, rfl, rfl, _, rfl, ?_⟩
      by_cases c1 : 2 ≤ ns.getD 0 0
      case' neg =>
        refine ifF (decide_eq_false c1) ?_
        refine ifF (c := false) rfl ?_
        have ok := tail fun q => c1 q.1
      case' pos =>
        refine ifT (decide_eq_true c1) ?_
        refine ⟨_, rfl, l1, _, rfl, .inl (SqL.of h1'), rfl, _, rfl, ?_⟩
        rw [List.length_map]
        by_cases c2 : ds.length = 0
        case' neg =>
          refine ifF (decide_eq_false fun q => c2 (Int.ofNat.inj (V.int.inj q))) ?_
          refine ifF (c := false) rfl ?_
          have ok := tail fun q => c2 q.2.1
        case' pos =>
          refine ifT (decide_eq_true (by rw [c2]; rfl)) ?_
          refine ⟨_, rfl, D, _, rfl, .inl (SqL.of hd2), rfl, _, rfl, ?_⟩
          rw [List.length_map, al]
          by_cases c3 : nq = 0
          case' neg =>
            refine ifF (decide_eq_false fun q => c3 (Int.ofNat.inj (V.int.inj q))) ?_
            have ok := tail fun q => c3 (by omega)
          case' pos =>
            refine ifT (decide_eq_true (by rw [c3]; rfl)) ?_
            refine bad _ S2 fun ok => ?_
            rw [er] at ok
            exact (iff.mp ok).2.2.2.2 ⟨c1, c2, by show ps.length = 0; omega⟩
      all_goals
        refine ⟨_, rfl, a, _, _, _, rfl, rfl, hs2, a3, rfl, _, rfl, ?_⟩
        by_cases c5 : ns.getD 3 0 = 1
        case' pos =>
          refine ifT (decide_eq_true (congrArg V.int c5)) ?_
          refine ⟨_, rfl, a, _, _, _, rfl, rfl, hs2, a4, ?_⟩
          rw [if_pos c5] at last
          rw [← last]
        case' neg =>
          refine ifF (decide_eq_false fun q => c5 (V.int.inj q)) ?_
          rw [if_neg c5] at last
          change gName 6 (V.int 2932896) _ _ _
          rw [← last]
        all_goals
          refine ⟨_, rfl, _, rfl, a, _, _, _, rfl, rfl, hs2, a1, _, rfl, a, _, _, _, rfl, rfl, hs2, a2, _, rfl, _, rfl, _, rfl, _, rfl, fun x dx hx hdx ne => ?_⟩
          have sx : Same H2 (upd (upd H2 dx (.own x)) x (.ins C_Recurrence dx [])) := Same.put (Same.new hdx) hx
          have hxx : upd (upd H2 dx (.own x)) x (.ins C_Recurrence dx []) x = some (.ins C_Recurrence dx []) := upd_same
          generalize upd (upd H2 dx (.own x)) x (.ins C_Recurrence dx []) = H3 at *
          have ebr : r.by_ = ns.getD 0 0 := by rw [er]
          have eer : r.every = ns.getD 1 0 := by rw [er]
          have efr : r.from_ = ns.getD 2 0 := by rw [er]
          have edr : r.days = ds := by rw [er]
          have emr : r.months = ms := by rw [er]
          have epr : r.pairs = ps := by rw [er]
          have cf := ok.fcal
          rw [efr] at cf
          refine ⟨x, dx, l1, l2, D, ns.getD 0 0, ns.getD 1 0, ns.getD 2 0, r.last, ds, ms, ps, rfl, hxx, sx _ _ h1', sx _ _ h2', LP.same sx fun _ _ q => q.same sx, dlen, by omega, cf, fun H' lm' lo tb G hp' m1 m2 ho ht => ⟨rfl, ?_⟩⟩
          have S3 := S2.trans sx
          have SH : Same H H' := fun b o e => G.fr b o (fun z => by rw [z] at e; have := S2 _ _ e; rw [hx] at this; cases this) (S3 _ _ e)
          have nx : H x = none := S2.free hx
          have fb : Same (fresh H3 H') (fresh H H') := fresh_back S3
          refine hS r (key ok) ok x H' SH nx ⟨dx, lm', lo, tb, ?_, ?_, ?_, ?_⟩
          · rw [fresh_at nx, ebr, eer, efr]
            exact hp'
          · unfold Rc.mons
            rw [emr]
            cases me : ms.isEmpty with
            | true => exact fb _ _ (m2 me)
            | false =>
              rw [m1 me, if_neg (by decide), fresh_at n2]
              exact G.fr _ _ (fun z => by rw [z, hx] at h2'; cases h2') (sx _ _ h2')
          · have eo : r.orig = origP (ns.getD 0 0) (ns.getD 2 0) ds := by rw [er]; rfl
            rw [eo]
            exact fb _ _ ho
          · rw [ebr, edr, epr]
            exact ht.same fb
end
end Cc
set_option Elab.async false
set_option maxRecDepth 100000
set_option maxHeartbeats 2000000
set_option linter.unusedSimpArgs false
set_option linter.unusedVariables false
namespace Cc
open PySem PySem.Spec PyProof.Rows L2
section
variable {P : Program} {w : World} {K : PySem.W.Frag} {mg : Str → Option Value} {base : Heap} {tbl C_Recurrence : Addr}
/-! ## Counting a recurrence's days -/
theorem fmod_ev {x e : Int} (h : 1 ≤ e) : x.fmod e = x % e := Int.fmod_eq_emod_of_nonneg _ (by omega)
theorem fdiv_ev {x e : Int} (h : 1 ≤ e) : x.fdiv e = x / e := Int.fdiv_eq_ediv_of_nonneg _ (by omega)
theorem dec_int (x y : Int) : decide (V.int x = V.int y) = decide (x = y) := decide_eq_decide.mpr ⟨V.int.inj, congrArg V.int⟩
abbrev s_has_month : Stmt := topS 68
theorem sc_has_month : FnScope ["recurrence", "month"] ["recurrence", "month"] (defScope s_has_month) := ⟨rfl, rfl, rfl, by decide +kernel, rfl, by decide +kernel, by decide +kernel⟩
def sp_has_month (cR : Addr) : Sp := fun vs H Q _ => ∃ (a : Addr) (r : Rc) (q : Int), vs = [.ref a, .int q] ∧ RecAt cR H a r ∧ r.Ok ∧ Q (.bl (hasM r q)) H
theorem ok_has_month (B : Blt K mg tbl) (R : Rez K C_Recurrence) (T : Txd K mg "has_month" s_has_month)  : Df P w K mg base "has_month" ["recurrence", "month"] 1 (sp_has_month C_Recurrence) := by
  obtain ⟨f, fd, F, hm⟩ := T.ex
  refine ⟨f, fd, F.ok sc_has_month (fun vs H Q E h => ?_) (fun cdv A outer s H vs Q E hr h => ⟨_, (pss_cons (ps_if (pt_cmpR op_notIn_seq (pe_op op_add (pe_op op_mod (pv 1) pe_int) pe_int) (pe_fld (pv 0) rfl) (by rfl))
     (pss_one (ps_ret pe_bl))
     pss_nil)
    (pss_cons (ps_if (pt_cmpR op_eq (pe_fld (pv 0) rfl) (pe_gc (by rfl) B.BY_MONTH) (nomark _))
     (pss_one (ps_ret (pe_cmpR op_eq (pe_op op_modN (pe_op op_sub (pv 1) (pe_fld (pv 0) rfl)) (pe_fld (pv 0) rfl)) pe_int (nomark _))))
     pss_nil)
    (pss_cons (ps_if (pt_cmpR op_eq (pe_fld (pv 0) rfl) (pe_gc (by rfl) B.BY_YEAR) (nomark _))
     (pss_one (ps_ret (pe_cmpR op_eq (pe_op op_modN (pe_op op_sub (pe_op op_fdiv (pv 1) pe_int) (pe_op op_fdiv (pe_fld (pv 0) rfl) pe_int)) (pe_fld (pv 0) rfl)) pe_int (nomark _))))
     pss_nil)
    (pss_one (ps_ret pe_bl))))), ?_⟩), hm, F.kp, F.binds fun _ _ _ _ _ _ us hl => match us, hl with | [_, _], _ => rfl⟩
  · obtain ⟨a, r, q, rfl, _⟩ := h
    rfl
  · obtain ⟨a, r, q, rfl, ⟨dx, lm, lo, tb, ha, hm, ho, ht⟩, ok, h⟩ := h
    have key : ∀ b : Bool, hasM r q = b → Q (.bl b) H := fun b e => e ▸ h
    unfold hasM at key
    have e1 := ok.ev1
    refine ⟨_, rfl, _, _, rfl, rfl, (by show (0 : Int) < 12; decide), _, _, rfl, rfl, _, rfl, a, _, dx, _, _, rfl, ha, R.cl, R.n6, reF_months, lm, _, rfl, .inl (SqL.of hm), rfl, flat_ints _, _, rfl, ?_⟩
    rw [inV_ints]
    by_cases c : (q % 12 + 1) ∈ r.mons
    case neg =>
      refine ifT (by rw [decide_eq_false c]; rfl) ?_
      rw [decide_eq_false c, Bool.false_and] at key
      exact key _ rfl
    refine ifF (by rw [decide_eq_true c]; rfl) ?_
    rw [decide_eq_true c, Bool.true_and] at key
    refine ⟨_, rfl, a, _, dx, _, _, rfl, ha, R.cl, R.n1, reF_by, rfl, _, rfl, ?_⟩
    by_cases c2 : r.by_ = 2
    · refine ifT (decide_eq_true (congrArg V.int c2)) ?_
      rw [if_pos c2] at key
      refine ⟨_, rfl, _, rfl, a, _, dx, _, _, rfl, ha, R.cl, R.n5, reF_fm, _, _, rfl, rfl, _, rfl, a, _, dx, _, _, rfl, ha, R.cl, R.n2, reF_every, _, _, rfl, rfl, (by show r.every ≠ 0; omega), rfl, ?_⟩
      refine key _ ?_
      show decide _ = decide (V.int ((q - monNo r.from_).fmod r.every) = V.int 0)
      rw [dec_int, fmod_ev e1]
    · refine ifF (decide_eq_false fun z => c2 (V.int.inj z)) ?_
      rw [if_neg c2] at key
      refine ⟨_, rfl, a, _, dx, _, _, rfl, ha, R.cl, R.n1, reF_by, rfl, _, rfl, ?_⟩
      by_cases c3 : r.by_ = 3
      · refine ifT (decide_eq_true (congrArg V.int c3)) ?_
        rw [if_pos c3] at key
        refine ⟨_, rfl, _, _, rfl, rfl, ⟨by decide, by decide⟩, _, rfl, a, _, dx, _, _, rfl, ha, R.cl, R.n5, reF_fm, _, _, rfl, rfl, ⟨by decide, by decide⟩, _, _, rfl, rfl, _, rfl, a, _, dx, _, _, rfl, ha, R.cl, R.n2, reF_every, _, _, rfl, rfl, (by show r.every ≠ 0; omega), rfl, ?_⟩
        refine key _ ?_
        show decide _ = decide (V.int ((q / 12 - monNo r.from_ / 12).fmod r.every) = V.int 0)
        rw [dec_int, fmod_ev e1]
      · refine ifF (decide_eq_false fun z => c3 (V.int.inj z)) ?_
        rw [if_neg c3] at key
        exact key _ rfl
theorem turns_more (t lo hi : Int) (l : List Int) (o : Int) : turns t (l ++ [o]) lo hi = turns t l lo hi + ((hi - o) / t - (lo - 1 - o) / t) := by
  unfold turns
  rw [List.map_append, List.sum_append]
  simp
theorem Rc.Ok.turn {r : Rc} (ok : r.Ok) : 1 ≤ r.turn ∧ r.turn ≤ 7000 := by
  have := ok.ev1; have := ok.ev2
  unfold Rc.turn
  split <;> omega
abbrev s_count_by_turns : Stmt := topS 69
theorem sc_count_by_turns : FnScope ["recurrence", "low", "high", "turn", "total", "origin"] ["recurrence", "low", "high"] (defScope s_count_by_turns) := ⟨rfl, rfl, rfl, by decide +kernel, rfl, by decide +kernel, by decide +kernel⟩
def sp_count_by_turns (cR : Addr) : Sp := fun vs H Q _ => ∃ (a : Addr) (r : Rc) (low high : Int), vs = [.ref a, .int low, .int high] ∧ RecAt cR H a r ∧ r.Ok ∧ Q (.int (turns r.turn r.orig low high)) H
theorem ok_count_by_turns (B : Blt K mg tbl) (R : Rez K C_Recurrence) (T : Txd K mg "count_by_turns" s_count_by_turns)  : Df P w K mg base "count_by_turns" ["recurrence", "low", "high"] 1 (sp_count_by_turns C_Recurrence) := by
  obtain ⟨f, fd, F, hm⟩ := T.ex
  refine ⟨f, fd, F.ok sc_count_by_turns (fun vs H Q E h => ?_) (fun cdv A outer s H vs Q E hr h => ⟨_, (pss_cons (ps_set (i := 3) sc_count_by_turns.nd rfl (Or.inl rfl) (pe_ifExp (pt_cmpR op_eq (pe_fld (pv 0) rfl) (pe_gc (by rfl) B.BY_DAY) (nomark _)) (pe_fld (pv 0) rfl) (pe_op op_mul pe_int (pe_fld (pv 0) rfl))))
    (pss_cons (ps_set (i := 4) sc_count_by_turns.nd rfl (Or.inl rfl) pe_int)
    (pss_cons (ps_for PassesOwn.never rfl (pi_list (pe_fld (pv 0) rfl)) (pg_name (i := 5) sc_count_by_turns.nd rfl (Or.inl rfl))
     (pss_one (ps_aug (i := 4) sc_count_by_turns.nd rfl (Or.inl rfl) (pe_op op_sub (pe_op op_fdivN (pe_op op_sub (pv 2) (pv 5)) (pv 3)) (pe_op op_fdivN (pe_op op_sub (pe_op op_sub (pv 1) pe_int) (pv 5)) (pv 3))) ip_add)))
    (pss_one (ps_ret (pv 4)))))), ?_⟩), hm, F.kp, F.binds fun _ _ _ _ _ _ us hl => match us, hl with | [_, _, _], _ => rfl⟩
  · obtain ⟨a, r, low, high, rfl, _⟩ := h
    rfl
  · obtain ⟨a, r, low, high, rfl, ⟨dx, lm, lo, tb, ha, hm, ho, ht⟩, ok, h⟩ := h
    have tr := ok.turn
    have et : r.turn = if r.by_ = 0 then r.every else 7 * r.every := rfl
    generalize r.turn = t at *
    refine ⟨_, rfl, a, _, dx, _, _, rfl, ha, R.cl, R.n1, reF_by, rfl, _, rfl, ?_⟩
    by_cases c0 : r.by_ = 0
    case' pos =>
      refine ifT (decide_eq_true (congrArg V.int c0)) ?_
      refine ⟨_, rfl, a, _, dx, _, _, rfl, ha, R.cl, R.n2, reF_every, ?_⟩
      rw [if_pos c0] at et
      rw [← et]
    case' neg =>
      refine ifF (decide_eq_false fun z => c0 (V.int.inj z)) ?_
      refine ⟨_, rfl, a, _, dx, _, _, rfl, ha, R.cl, R.n2, reF_every, _, _, rfl, rfl, .inl ⟨by decide, by decide⟩, ?_⟩
      rw [if_neg c0] at et
      dsimp only
      rw [← et]
    all_goals
      refine ⟨_, rfl, a, _, dx, _, _, rfl, ha, R.cl, R.n7, reF_origins, lo, rfl, ⟨_, SqL.of ho⟩, for_list (K := K) (a := lo) (xs := r.orig.map V.int) (fun i σ H' => H' = H ∧ ∃ v, σ = [some (.ref a), some (.int low), some (.int high), some (.int t), some (.int (turns t (r.orig.take i) low high)), v]) ⟨rfl, none, rfl⟩ (fun i σ H' _ ⟨e, _⟩ => e ▸ SqL.of ho) ?_ ?_⟩
      · rintro i y σ H' hi ⟨rfl, v, rfl⟩
        rw [List.getElem?_map] at hi
        cases eo : r.orig[i]? with
        | none => rw [eo] at hi; cases hi
        | some o =>
        rw [eo] at hi
        obtain rfl : V.int o = y := Option.some.inj hi
        refine ⟨_, rfl, _, rfl, _, rfl, _, _, rfl, rfl, _, rfl, _, _, rfl, rfl, ⟨by omega, by omega⟩, _, rfl, _, _, rfl, rfl, _, rfl, _, _, rfl, rfl, _, rfl, _, _, rfl, rfl, ⟨by omega, by omega⟩, _, _, rfl, rfl, _, _, rfl, rfl, rfl, some (.int o), ?_⟩
        have e : turns t (r.orig.take (i + 1)) low high = turns t (r.orig.take i) low high + ((high - o).fdiv t - (low - 1 - o).fdiv t) := by
          rw [take_more eo, turns_more, fdiv_ev tr.1, fdiv_ev tr.1]
        rw [e]
        rfl
      · rintro σ H' ⟨rfl, v, rfl⟩
        refine ⟨_, rfl, ?_⟩
        rw [List.length_map, List.take_length]
        exact h
abbrev s_count_in_month : Stmt := topS 67
theorem sc_count_in_month : FnScope ["recurrence", "month", "low", "high", "first", "behind", "told", "day"] ["recurrence", "month", "low", "high"] (defScope s_count_in_month) := ⟨rfl, rfl, rfl, by decide +kernel, rfl, by decide +kernel, by decide +kernel⟩
def sp_count_in_month (cR : Addr) : Sp := fun vs H Q _ => ∃ (a : Addr) (r : Rc) (q low high : Int), vs = [.ref a, .int q, .int low, .int high] ∧ RecAt cR H a r ∧ r.Ok ∧ InM r q low high ∧ giveV H Q (.int (inC r q low high : Nat))
theorem ok_count_in_month (B : Blt K mg tbl) (R : Rez K C_Recurrence) (T : Txd K mg "count_in_month" s_count_in_month) (D_month_first : Df P w K mg base "month_first" ["number"] 4 (sp_month_first)) (D_has_month : Df P w K mg base "has_month" ["recurrence", "month"] 1 (sp_has_month C_Recurrence)) (D_count_by_turns : Df P w K mg base "count_by_turns" ["recurrence", "low", "high"] 1 (sp_count_by_turns C_Recurrence)) (D_weekday_of : Df P w K mg base "weekday_of" ["n"] 1 (sp_weekday_of)) : Df P w K mg base "count_in_month" ["recurrence", "month", "low", "high"] 5 (sp_count_in_month C_Recurrence) := by
  obtain ⟨f, fd, F, hm⟩ := T.ex
  refine ⟨f, fd, F.ok sc_count_in_month (fun vs H Q E h => ?_) (fun cdv A outer s H vs Q E hr h => ⟨_, (pss_cons (ps_if (pt_not (pt_val (pe_callD D_has_month hr (by decide) (by rfl) (pa_cons (pv 0) (pa_cons (pv 1) pa_nil)))))
     (pss_one (ps_ret pe_int))
     pss_nil)
    (pss_cons (ps_set (i := 4) sc_count_in_month.nd rfl (Or.inr rfl) (pe_callD D_month_first hr (by decide) (by rfl) (pa_cons (pv 1) pa_nil)))
    (pss_cons (ps_set (i := 5) sc_count_in_month.nd rfl (Or.inl rfl) (pe_callD D_month_first hr (by decide) (by rfl) (pa_cons (pe_op op_add (pv 1) pe_int) pa_nil)))
    (pss_cons (ps_if (pt_cmpR op_lt (pe_fld (pv 0) rfl) (pe_gc (by rfl) B.BY_MONTH) (nomark _))
     (pss_one (ps_ret (pe_callD D_count_by_turns hr (by decide) (by rfl) (pa_cons (pv 0) (pa_cons (pe_callB (call_max2 rfl) (by rfl) B.b_max (by decide +kernel) (pa_cons (pv 2) (pa_cons (pv 4) pa_nil))) (pa_cons (pe_callB (call_min2 rfl) (by rfl) B.b_min (by decide +kernel) (pa_cons (pv 3) (pa_cons (pe_op op_sub (pv 5) pe_int) pa_nil))) pa_nil))))))
     pss_nil)
    (pss_cons (ps_set (i := 6) sc_count_in_month.nd rfl (Or.inl rfl) (pe_dget (hu_of hr) (pe_fld (pv 0) rfl) (pe_tup (pa_cons (pe_op op_sub (pv 5) (pv 4)) (pa_cons (pe_callD D_weekday_of hr (by decide) (by rfl) (pa_cons (pv 4) pa_nil)) pa_nil))) (fun _ _ => rfl)))
    (pss_cons (ps_if (PW.pt (pw_and (pt_cmpR op_le (pv 2) (pv 4) (nomark _)) (pw_and1 (pt_cmpR op_le (pe_op op_sub (pv 5) pe_int) (pv 3) (nomark _)))))
     (pss_one (ps_ret (pe_callB call_len_seq (by rfl) B.b_len (by decide +kernel) (pa_cons (pv 6) pa_nil))))
     pss_nil)
    (pss_one (ps_ret (pe_callB call_len_seq (by rfl) B.b_len (by decide +kernel) (pa_cons (pe_lc (own := [("day", 7)]) (g := gName 7) (te := (tVar 7)) rfl sc_count_in_month.nd (pi_list (pv 6)) (blkOk_by (own := [("day", 7)]) (N := ["recurrence", "month", "low", "high", "first", "behind", "told", "day"]) (sc := defScope s_count_in_month) (by decide +kernel)) (fun _ _ _ _ _ => pg_name (i := 7) sc_count_in_month.nd rfl (Or.inl rfl)) (fun _ _ _ _ _ => pts_one (pt_chain op_le op_le (pv 2) (pe_op op_sub (pe_op op_add (pv 4) (pv 7)) pe_int) (pv 3))) (fun _ _ _ _ _ => (pv 7))) pa_nil)))))))))), ?_⟩), hm, F.kp, F.binds fun _ _ _ _ _ _ us hl => match us, hl with | [_, _, _, _], _ => rfl⟩
  · obtain ⟨a, r, q, low, high, rfl, _⟩ := h
    rfl
  · obtain ⟨a, r, q, low, high, rfl, ra, ok, I, h⟩ := h
    refine ⟨_, rfl, _, rfl, a, r, q, rfl, ra, ok, _, rfl, ?_⟩
    cases em : hasM r q with
    | false =>
      refine ifT (c := true) rfl ?_
      have := h H (Same.refl H)
      rw [in_not ok I em] at this
      exact this
    | true =>
    refine ifF (c := false) rfl ?_
    have ra0 := ra
    obtain ⟨dx, lm, lo, tb, ha, hm, ho, ht⟩ := ra
    refine ⟨_, rfl, _, rfl, trivial, ?_⟩
    refine ⟨_, rfl, _, _, rfl, rfl, _, rfl, trivial, ?_⟩
    refine ⟨_, rfl, a, _, dx, _, _, rfl, ha, R.cl, R.n1, reF_by, _, _, rfl, rfl, _, rfl, ?_⟩
    by_cases c : r.by_ < 2
    · refine ifT (decide_eq_true c) ?_
      refine ⟨_, rfl, _, rfl, _, rfl, _, _, rfl, _, rfl, _, rfl, _, _, rfl, rfl, _, _, rfl, a, r, mxP low (mfst q), mnP high (mfst (q + 1) - 1), rfl, ra0, ok, ?_⟩
      rw [in_turn ok I em c]
      exact h H (Same.refl H)
    refine ifF (decide_eq_false c) ?_
    have ml := mlen_range (y := q / 12) (m := q % 12 + 1) (by omega) (by omega)
    have el := mfst_len q
    have wr : 0 ≤ wdM (mfst q) ∧ wdM (mfst q) ≤ 6 := by unfold wdM; omega
    obtain ⟨kvs, hk, tab⟩ := ht
    obtain ⟨l, el1, el2⟩ := tab (by omega) (mfst (q + 1) - mfst q) (wdM (mfst q)) (by omega) (by omega) wr.1 wr.2
    refine ⟨_, rfl, a, _, dx, _, _, rfl, ha, R.cl, R.n8, reF_table, _, rfl, _, rfl, _, _, rfl, rfl, _, rfl, _, rfl, trivial, len2, fun t ht => ?_⟩
    have s1 : Same H (upd H t (.tup [.int (mfst (q + 1) - mfst q), .int (wdM (mfst q))])) := Same.new ht
    have ht1 : upd H t (.tup [.int (mfst (q + 1) - mfst q), .int (wdM (mfst q))]) t = some (.tup [.int (mfst (q + 1) - mfst q), .int (wdM (mfst q))]) := upd_same
    have dg : DGet (upd H t (.tup [.int (mfst (q + 1) - mfst q), .int (wdM (mfst q))])) tb (.ref t) (some (.ref l)) := by
      have := DGet.t (k := [.inl (mfst (q + 1) - mfst q), .inl (wdM (mfst q))]) (s1 _ _ hk) ht1
      rw [el1] at this
      exact this
    refine ⟨tb, _, rfl, dg, ?_⟩
    generalize upd H t (.tup [.int (mfst (q + 1) - mfst q), .int (wdM (mfst q))]) = H1 at *
    have hl1 := s1 _ _ el2
    have full := in_whole ok I em (by omega)
    have part := in_tab ok I em (by omega)
    have tl : (toldL r.days r.pairs (mfst (q + 1) - mfst q) (wdM (mfst q))).length ≤ 31 := by
      unfold toldL
      rw [dys_len]
      have : ∀ (p : Int → Bool) (f : Nat) (a : Int), cntF p a f ≤ f := by
        intro p f
        induction f with
        | zero => intro a; exact Nat.le_refl _
        | succ f ih =>
          intro a
          have := ih (a + 1)
          unfold cntF
          split <;> omega
      have := this (toldB r.days r.pairs (mfst (q + 1) - mfst q) (wdM (mfst q))) (mfst (q + 1) - mfst q).toNat 1
      omega
    generalize toldL r.days r.pairs (mfst (q + 1) - mfst q) (wdM (mfst q)) = tL at *
    have whole : low ≤ mfst q → mfst (q + 1) - 1 ≤ high → ∀ H', Same H1 H' → Q (.int ((tL.map V.int).length : Nat)) H' := fun w1 w2 H' s => by
      rw [List.length_map, full w1 w2]
      exact h H' (s1.trans s)
    have rest : ∀ H' D, Same H1 H' → H' D = some (.lst ((tL.filter fun d => decide (low ≤ mfst q + d - 1 ∧ mfst q + d - 1 ≤ high)).map V.int)) → Q (.int (((tL.filter fun d => decide (low ≤ mfst q + d - 1 ∧ mfst q + d - 1 ≤ high)).map V.int).length : Nat)) H' := fun H' D s e => by
      rw [List.length_map, part]
      exact h H' (s1.trans s)
    refine ⟨_, rfl, _, rfl, _, _, rfl, rfl, _, rfl, ?_⟩
    by_cases c1 : low ≤ mfst q
    case' neg =>
      refine ifF (decide_eq_false c1) ?_
      refine ifF (c := false) rfl ?_
    case' pos =>
      refine ifT (decide_eq_true c1) ?_
      refine ⟨_, rfl, _, _, rfl, rfl, _, rfl, _, _, rfl, rfl, _, rfl, ?_⟩
      by_cases c2 : mfst (q + 1) - 1 ≤ high
      case' neg =>
        refine ifF (decide_eq_false c2) ?_
      case' pos =>
        refine ifT (decide_eq_true c2) ?_
        exact ⟨_, rfl, l, _, rfl, .inl (SqL.of hl1), whole c1 c2 _ (Same.refl _)⟩
    all_goals
      refine ⟨_, rfl, l, rfl, ⟨_, SqL.of hl1⟩, fun D hD => lc_list (K := K) (a := l) (xs := tL.map V.int) (fun i H' => Same H1 H' ∧ H' D = some (.lst (((tL.take i).filter fun d => decide (low ≤ mfst q + d - 1 ∧ mfst q + d - 1 ≤ high)).map V.int))) ⟨Same.new hD, upd_same⟩ (fun i H' _ ⟨s, _⟩ => SqL.of (s _ _ hl1)) ?_ ?_⟩
      · rintro i y H' hi ⟨s, hd⟩
        rw [List.getElem?_map] at hi
        cases ed : tL[i]? with
        | none => rw [ed] at hi; cases hi
        | some d =>
        rw [ed] at hi
        obtain rfl : V.int d = y := Option.some.inj hi
        have ibd : i < tL.length := by
          by_cases z : i < tL.length
          · exact z
          · rw [List.getElem?_eq_none (by omega)] at ed
            cases ed
        refine ⟨rfl, ?_⟩
        rw [take_more ed, List.filter_append]
        have skip : ¬ (low ≤ mfst q + d - 1 ∧ mfst q + d - 1 ≤ high) → Same H1 H' ∧ H' D = some (.lst ((((tL.take i).filter fun d => decide (low ≤ mfst q + d - 1 ∧ mfst q + d - 1 ≤ high)) ++ [d].filter fun d => decide (low ≤ mfst q + d - 1 ∧ mfst q + d - 1 ≤ high)).map V.int)) := fun z => by
          refine ⟨s, ?_⟩
          rw [List.filter_cons_of_neg (by rw [decide_eq_false z]; decide), List.filter_nil, List.append_nil]
          exact hd
        refine ⟨_, rfl, _, rfl, _, rfl, _, _, rfl, rfl, _, _, rfl, rfl, _, _, rfl, rfl, _, rfl, ?_⟩
        by_cases d1 : low ≤ mfst q + d - 1
        case neg =>
          refine ifF (decide_eq_false d1) ⟨_, rfl, ?_⟩
          exact iteF (skip fun z => d1 z.1)
        refine ifT (decide_eq_true d1) ?_
        refine ⟨_, rfl, _, _, rfl, rfl, _, rfl, ?_⟩
        by_cases d2 : mfst q + d - 1 ≤ high
        case neg =>
          refine ifF (decide_eq_false d2) ?_
          exact skip fun z => d2 z.2
        refine ifT (decide_eq_true d2) ?_
        refine ⟨_, rfl, _, hd, ?_, Same.put s hD, ?_⟩
        · rw [List.length_map]
          have := List.length_filter_le (fun d => decide (low ≤ mfst q + d - 1 ∧ mfst q + d - 1 ≤ high)) (tL.take i)
          rw [List.length_take] at this
          exact small_len (by omega)
        · rw [upd_same, List.filter_cons_of_pos (p := fun d => decide (low ≤ mfst q + d - 1 ∧ mfst q + d - 1 ≤ high)) (decide_eq_true ⟨d1, d2⟩), List.filter_nil, List.map_append]
          rfl
      · rintro H2 ⟨s2, hd2⟩
        rw [List.length_map, List.take_length] at hd2
        exact ⟨D, _, rfl, .inl (SqL.of hd2), rest H2 D s2 hd2⟩
end
end Cc
set_option Elab.async false
set_option maxRecDepth 100000
set_option maxHeartbeats 2000000
set_option linter.unusedSimpArgs false
set_option linter.unusedVariables false
namespace Cc
open PySem PySem.Spec PyProof.Rows L2
section
variable {P : Program} {w : World} {K : PySem.W.Frag} {mg : Str → Option Value} {base : Heap} {tbl C_Recurrence : Addr}
/-! ## A recurrence's days from a on to b -/
theorem mnP_first {low high q0 : Int} (h1 : mfst q0 ≤ low) (h2 : low ≤ high) : mnP high (mfst q0 - 1) = mfst q0 - 1 := if_pos (by omega)
/-- what the months of a walk bring -/
theorem walk_in {r : Rc} {low high : Int} (cl : -719162 ≤ low ∧ low ≤ 2932896) (ch : -719162 ≤ high ∧ high ≤ 2932896) (fl : r.from_ ≤ low) (hl : high ≤ r.last) (lh : low ≤ high) {i : Nat} (hi : (i : Int) < monNo high + 1 - monNo low) :
    InM r (monNo low + i) low high ∧ mnP high (mfst (monNo low + i) - 1) = mfst (monNo low + i) - 1 := by
  have a := monNo_in cl
  have b := monNo_in ch
  have m1 := mfst_le (a := monNo low + i) (b := monNo high) (by omega)
  have m2 := mfst_le (a := monNo low + 1) (b := monNo low + i + 1) (by omega)
  exact ⟨⟨cl.1, ch.2, fl, hl, lh, by omega, by omega⟩, if_pos (by omega)⟩
theorem walk_end {low high : Int} (cl : -719162 ≤ low ∧ low ≤ 2932896) (ch : -719162 ≤ high ∧ high ≤ 2932896) (lh : low ≤ high) : mnP high (mfst (monNo low + ((monNo high + 1 - monNo low).toNat : Nat)) - 1) = high := by
  have b := monNo_in ch
  have m := monNo_mono cl ch lh
  rw [show monNo low + ((monNo high + 1 - monNo low).toNat : Nat) = monNo high + 1 by omega]
  exact if_neg (by omega)
theorem low_cal {r : Rc} (ok : r.Ok) {x : Int} (c : -719162 ≤ x ∧ x ≤ 2932896) : (-719162 ≤ mxP x r.from_ ∧ mxP x r.from_ ≤ 2932896) ∧ r.from_ ≤ mxP x r.from_ := by
  have := ok.fcal
  unfold mxP
  split <;> omega
theorem high_cal {r : Rc} (ok : r.Ok) {y : Int} (c : -719162 ≤ y) : (-719162 ≤ mnP y r.last ∧ mnP y r.last ≤ 2932896) ∧ mnP y r.last ≤ r.last := by
  have := ok.lcal
  unfold mnP
  split <;> omega
abbrev s_count_between : Stmt := topS 66
theorem sc_count_between : FnScope ["recurrence", "a", "b", "low", "high", "total", "month"] ["recurrence", "a", "b"] (defScope s_count_between) := ⟨rfl, rfl, rfl, by decide +kernel, rfl, by decide +kernel, by decide +kernel⟩
def sp_count_between (cR : Addr) : Sp := fun vs H Q _ => ∃ (a : Addr) (r : Rc) (x y : Int), vs = [.ref a, .int x, .int y] ∧ RecAt cR H a r ∧ r.Ok ∧ Cal x ∧ -719162 ≤ y ∧ giveV H Q (.int (cn (Tm.isOne r.to) x y : Nat))
theorem ok_count_between (B : Blt K mg tbl) (R : Rez K C_Recurrence) (T : Txd K mg "count_between" s_count_between) (D_month_number : Df P w K mg base "month_number" ["n"] 4 (sp_month_number)) (D_count_in_month : Df P w K mg base "count_in_month" ["recurrence", "month", "low", "high"] 5 (sp_count_in_month C_Recurrence)) : Df P w K mg base "count_between" ["recurrence", "a", "b"] 6 (sp_count_between C_Recurrence) := by
  obtain ⟨f, fd, F, hm⟩ := T.ex
  refine ⟨f, fd, F.ok sc_count_between (fun vs H Q E h => ?_) (fun cdv A outer s H vs Q E hr h => ⟨_, (pss_cons (ps_set (i := 3) sc_count_between.nd rfl (Or.inl rfl) (pe_callB (call_max2 rfl) (by rfl) B.b_max (by decide +kernel) (pa_cons (pv 1) (pa_cons (pe_fld (pv 0) rfl) pa_nil))))
    (pss_cons (ps_set (i := 4) sc_count_between.nd rfl (Or.inl rfl) (pe_callB (call_min2 rfl) (by rfl) B.b_min (by decide +kernel) (pa_cons (pv 2) (pa_cons (pe_fld (pv 0) rfl) pa_nil))))
    (pss_cons (ps_if (pt_cmpR op_gt (pv 3) (pv 4) (nomark _))
     (pss_one (ps_ret pe_int))
     pss_nil)
    (pss_cons (ps_set (i := 5) sc_count_between.nd rfl (Or.inl rfl) pe_int)
    (pss_cons (ps_for PassesOwn.never rfl (pi_range2 (by rfl) B.b_range (pa_cons (pe_callD D_month_number hr (by decide) (by rfl) (pa_cons (pv 3) pa_nil)) (pa_cons (pe_op op_add (pe_callD D_month_number hr (by decide) (by rfl) (pa_cons (pv 4) pa_nil)) pe_int) pa_nil))) (pg_name (i := 6) sc_count_between.nd rfl (Or.inl rfl))
     (pss_one (ps_aug (i := 5) sc_count_between.nd rfl (Or.inl rfl) (pe_callD D_count_in_month hr (by decide) (by rfl) (pa_cons (pv 0) (pa_cons (pv 6) (pa_cons (pv 3) (pa_cons (pv 4) pa_nil))))) ip_add)))
    (pss_one (ps_ret (pv 5)))))))), ?_⟩), hm, F.kp, F.binds fun _ _ _ _ _ _ us hl => match us, hl with | [_, _, _], _ => rfl⟩
  · obtain ⟨a, r, x, y, rfl, _⟩ := h
    rfl
  · obtain ⟨a, r, x, y, rfl, ra, ok, cx, cy, h⟩ := h
    have ra0 := ra
    obtain ⟨dx, lm, lo, tb, ha, hm, ho, ht⟩ := ra
    rw [cn_low ok] at h
    refine ⟨_, rfl, _, rfl, a, _, dx, _, _, rfl, ha, R.cl, R.n3, reF_first, _, _, rfl, ?_⟩
    change gName 3 (V.int (mxP x r.from_)) _ _ _
    refine ⟨_, rfl, _, rfl, a, _, dx, _, _, rfl, ha, R.cl, R.n4, reF_last, _, _, rfl, ?_⟩
    change gName 4 (V.int (mnP y r.last)) _ _ _
    obtain ⟨cl, fl⟩ := low_cal ok cx
    obtain ⟨ch, hl⟩ := high_cal ok cy
    generalize mxP x r.from_ = low at *
    generalize mnP y r.last = high at *
    refine ⟨_, rfl, _, rfl, _, _, rfl, rfl, _, rfl, ?_⟩
    by_cases c : high < low
    · refine ifT (decide_eq_true c) ?_
      rw [if_pos c] at h
      exact h H (Same.refl H)
    refine ifF (decide_eq_false c) ?_
    rw [if_neg c] at h
    have lh : low ≤ high := by omega
    have r1 := monNo_range cl
    have r2 := monNo_range ch
    refine ⟨_, rfl, low, rfl, cl, fun H1 s1 => ⟨_, rfl, high, rfl, ch, fun H2 s2 => ⟨_, _, rfl, rfl, ?_⟩⟩⟩
    refine ⟨_, _, rfl, ⟨by omega, by omega, by omega, by omega⟩, ?_⟩
    refine for_range (lo := monNo low) (n := (monNo high + 1 - monNo low).toNat) (fun i σ H' => (∃ v, σ = [some (.ref a), some (.int x), some (.int y), some (.int low), some (.int high), some (.int (cn (Tm.isOne r.to) low (mnP high (mfst (monNo low + i) - 1)) : Nat)), v]) ∧ Same H H') ⟨⟨none, ?_⟩, s1.trans s2⟩ ?_ ?_
    · have a := monNo_in cl
      rw [show monNo low + ((0 : Nat) : Int) = monNo low by omega, mnP_first a.1 lh, cn_empty _ (by omega)]
      rfl
    · rintro i σ H' hi ⟨⟨v, rfl⟩, s⟩
      obtain ⟨I, em⟩ := walk_in cl ch fl hl lh (i := i) (by omega)
      refine ⟨_, rfl, _, rfl, _, rfl, _, rfl, _, rfl, a, r, monNo low + i, low, high, rfl, ra0.same s, ok, I, fun H3 s3 => ⟨_, _, rfl, rfl, ⟨some (.int (monNo low + i)), ?_⟩, s.trans s3⟩⟩
      have st := inC_step I
      rw [em, show monNo low + ((i + 1 : Nat) : Int) = monNo low + i + 1 by omega, st, Int.natCast_add]
      rfl
    · rintro σ H' ⟨⟨v, rfl⟩, s⟩
      rw [walk_end cl ch lh]
      exact ⟨_, rfl, h H' s⟩
abbrev s_is_one : Stmt := topS 70
theorem sc_is_one : FnScope ["recurrence", "n"] ["recurrence", "n"] (defScope s_is_one) := ⟨rfl, rfl, rfl, by decide +kernel, rfl, by decide +kernel, by decide +kernel⟩
def sp_is_one (cR : Addr) : Sp := fun vs H Q _ => ∃ (a : Addr) (r : Rc) (n : Int), vs = [.ref a, .int n] ∧ RecAt cR H a r ∧ r.Ok ∧ Cal n ∧ giveV H Q (.bl (Tm.isOne r.to n))
theorem ok_is_one (B : Blt K mg tbl) (R : Rez K C_Recurrence) (T : Txd K mg "is_one" s_is_one) (D_count_between : Df P w K mg base "count_between" ["recurrence", "a", "b"] 6 (sp_count_between C_Recurrence)) : Df P w K mg base "is_one" ["recurrence", "n"] 7 (sp_is_one C_Recurrence) := by
  obtain ⟨f, fd, F, hm⟩ := T.ex
  refine ⟨f, fd, F.ok sc_is_one (fun vs H Q E h => ?_) (fun cdv A outer s H vs Q E hr h => ⟨_, (pss_one (ps_ret (pe_cmpR op_eq (pe_callD D_count_between hr (by decide) (by rfl) (pa_cons (pv 0) (pa_cons (pv 1) (pa_cons (pv 1) pa_nil)))) pe_int (nomark _)))), ?_⟩), hm, F.kp, F.binds fun _ _ _ _ _ _ us hl => match us, hl with | [_, _], _ => rfl⟩
  · obtain ⟨a, r, n, rfl, _⟩ := h
    rfl
  · obtain ⟨a, r, n, rfl, ra, ok, c, h⟩ := h
    refine ⟨_, rfl, _, rfl, _, rfl, a, r, n, n, rfl, ra, ok, c, c.1, fun H1 s1 => ⟨rfl, ?_⟩⟩
    have e : decide (V.int ((cn (Tm.isOne r.to) n n : Nat) : Int) = V.int 1) = Tm.isOne r.to n := by
      rw [dec_int, cn_one]
      cases Tm.isOne r.to n <;> rfl
    rw [e]
    exact h H1 s1
abbrev s_nth_in_month : Stmt := topS 72
theorem sc_nth_in_month : FnScope ["recurrence", "month", "low", "k", "day"] ["recurrence", "month", "low", "k"] (defScope s_nth_in_month) := ⟨rfl, rfl, rfl, by decide +kernel, rfl, by decide +kernel, by decide +kernel⟩
def sp_nth_in_month (cR : Addr) : Sp := fun vs H Q _ => ∃ (a : Addr) (r : Rc) (q low k high : Int), vs = [.ref a, .int q, .int low, .int k] ∧ RecAt cR H a r ∧ r.Ok ∧ InM r q low high ∧ 0 ≤ k ∧ k < (inC r q low high : Nat) ∧ ∀ d, (inL r q low high)[k.toNat]? = some d → giveV H Q (.int d)
theorem ok_nth_in_month (B : Blt K mg tbl) (R : Rez K C_Recurrence) (T : Txd K mg "nth_in_month" s_nth_in_month) (D_month_first : Df P w K mg base "month_first" ["number"] 4 (sp_month_first)) (D_count_in_month : Df P w K mg base "count_in_month" ["recurrence", "month", "low", "high"] 5 (sp_count_in_month C_Recurrence)) : Df P w K mg base "nth_in_month" ["recurrence", "month", "low", "k"] 6 (sp_nth_in_month C_Recurrence) := by
  obtain ⟨f, fd, F, hm⟩ := T.ex
  refine ⟨f, fd, F.ok sc_nth_in_month (fun vs H Q E h => ?_) (fun cdv A outer s H vs Q E hr h => ⟨_, (pss_cons (ps_set (i := 4) sc_nth_in_month.nd rfl (Or.inl rfl) (pe_callB (call_max2 rfl) (by rfl) B.b_max (by decide +kernel) (pa_cons (pv 2) (pa_cons (pe_callD D_month_first hr (by decide) (by rfl) (pa_cons (pv 1) pa_nil)) pa_nil))))
    (pss_cons (ps_while PassesOwn.never (pt_cmpR op_le (pe_callD D_count_in_month hr (by decide) (by rfl) (pa_cons (pv 0) (pa_cons (pv 1) (pa_cons (pv 2) (pa_cons (pv 4) pa_nil))))) (pv 3) (nomark _))
     (pss_one (ps_aug (i := 4) sc_nth_in_month.nd rfl (Or.inl rfl) pe_int ip_add)))
    (pss_one (ps_ret (pv 4))))), ?_⟩), hm, F.kp, F.binds fun _ _ _ _ _ _ us hl => match us, hl with | [_, _, _, _], _ => rfl⟩
  · obtain ⟨a, r, q, low, k, high, rfl, _⟩ := h
    rfl
  · obtain ⟨a, r, q, low, k, high, rfl, ra, ok, I, k0, k1, h⟩ := h
    refine ⟨_, rfl, _, rfl, _, rfl, trivial, _, _, rfl, ?_⟩
    change gName 4 (V.int (mxP low (mfst q))) _ _ _
    have lh := I.lh; have ql := I.ql; have qh := I.qh
    have ms := (mfst_step q).1
    have hle : mxP low (mfst q) ≤ mnP high (mfst (q + 1) - 1) := by
      unfold mxP mnP
      split <;> split <;> omega
    have b1 : low ≤ mxP low (mfst q) := by unfold mxP; split <;> omega
    have b2 : mfst q ≤ mxP low (mfst q) := by unfold mxP; split <;> omega
    have b3 : mnP high (mfst (q + 1) - 1) ≤ high := by unfold mnP; split <;> omega
    have b4 : mnP high (mfst (q + 1) - 1) ≤ mfst (q + 1) - 1 := by unfold mnP; split <;> omega
    have ih : ∀ d, mxP low (mfst q) ≤ d → d ≤ mnP high (mfst (q + 1) - 1) → InM r q low d ∧ inC r q low d = cn (Tm.isOne r.to) (mxP low (mfst q)) d := by
      intro d h1 h2
      have := I.ch; have := I.hl
      refine ⟨⟨I.cl, by omega, I.fl, by omega, by omega, by omega, qh⟩, ?_⟩
      unfold inC
      rw [show mnP d (mfst (q + 1) - 1) = d from if_neg (by omega)]
    have tot : k < (cn (Tm.isOne r.to) (mxP low (mfst q)) (mnP high (mfst (q + 1) - 1)) : Nat) := k1
    refine ⟨fun m σ H' => Same H H' ∧ ∃ d : Int, m = (mnP high (mfst (q + 1) - 1) - d).toNat ∧ σ = [some (.ref a), some (.int q), some (.int low), some (.int k), some (.int d)] ∧ mxP low (mfst q) ≤ d ∧ d ≤ mnP high (mfst (q + 1) - 1) ∧ (cn (Tm.isOne r.to) (mxP low (mfst q)) (d - 1) : Nat) ≤ k, ⟨_, Same.refl H, mxP low (mfst q), rfl, rfl, by omega, hle, by rw [cn_empty _ (by omega)]; exact k0⟩, ?_⟩
    rintro m σ H' ⟨s, d, rfl, rfl, d1, d2, dk⟩
    obtain ⟨Id, ed⟩ := ih d d1 d2
    refine ⟨_, rfl, _, rfl, _, rfl, _, rfl, a, r, q, low, d, rfl, ra.same s, ok, Id, fun H2 s2 => ⟨_, rfl, _, _, rfl, rfl, _, rfl, ?_⟩⟩
    rw [ed]
    by_cases t : (cn (Tm.isOne r.to) (mxP low (mfst q)) d : Nat) ≤ k
    · refine ifT (decide_eq_true t) ?_
      refine ⟨_, fun _ _ z => z, ?_⟩
      have d3 : d < mnP high (mfst (q + 1) - 1) := by
        by_cases z : d = mnP high (mfst (q + 1) - 1)
        · rw [z] at t
          omega
        · omega
      refine ⟨_, rfl, _, _, rfl, rfl, (mnP high (mfst (q + 1) - 1) - (d + 1)).toNat, by omega, s.trans s2, d + 1, rfl, rfl, by omega, by omega, ?_⟩
      rw [show d + 1 - 1 = d by omega]
      exact t
    · refine ifF (decide_eq_false t) ?_
      refine ⟨_, rfl, ?_⟩
      exact h d (dl_at (p := Tm.isOne r.to) d1 d2 (by omega) (by omega)) H2 (s.trans s2)
abbrev s_nth_between : Stmt := topS 71
theorem sc_nth_between : FnScope ["recurrence", "a", "b", "k", "low", "high", "left", "month", "here"] ["recurrence", "a", "b", "k"] (defScope s_nth_between) := ⟨rfl, rfl, rfl, by decide +kernel, rfl, by decide +kernel, by decide +kernel⟩
def sp_nth_between (cR : Addr) : Sp := fun vs H Q _ => ∃ (a : Addr) (r : Rc) (x y k : Int), vs = [.ref a, .int x, .int y, .int k] ∧ RecAt cR H a r ∧ r.Ok ∧ Cal x ∧ -719162 ≤ y ∧ 0 ≤ k ∧ giveV H Q (vO ((dl (Tm.isOne r.to) x y)[k.toNat]?))
theorem ok_nth_between (B : Blt K mg tbl) (R : Rez K C_Recurrence) (T : Txd K mg "nth_between" s_nth_between) (D_month_number : Df P w K mg base "month_number" ["n"] 4 (sp_month_number)) (D_count_in_month : Df P w K mg base "count_in_month" ["recurrence", "month", "low", "high"] 5 (sp_count_in_month C_Recurrence)) (D_nth_in_month : Df P w K mg base "nth_in_month" ["recurrence", "month", "low", "k"] 6 (sp_nth_in_month C_Recurrence)) : Df P w K mg base "nth_between" ["recurrence", "a", "b", "k"] 7 (sp_nth_between C_Recurrence) := by
  obtain ⟨f, fd, F, hm⟩ := T.ex
  refine ⟨f, fd, F.ok sc_nth_between (fun vs H Q E h => ?_) (fun cdv A outer s H vs Q E hr h => ⟨_, (pss_cons (ps_set (i := 4) sc_nth_between.nd rfl (Or.inl rfl) (pe_callB (call_max2 rfl) (by rfl) B.b_max (by decide +kernel) (pa_cons (pv 1) (pa_cons (pe_fld (pv 0) rfl) pa_nil))))
    (pss_cons (ps_set (i := 5) sc_nth_between.nd rfl (Or.inl rfl) (pe_callB (call_min2 rfl) (by rfl) B.b_min (by decide +kernel) (pa_cons (pv 2) (pa_cons (pe_fld (pv 0) rfl) pa_nil))))
    (pss_cons (ps_if (pt_cmpR op_gt (pv 4) (pv 5) (nomark _))
     (pss_one (ps_ret pe_non))
     pss_nil)
    (pss_cons (ps_set (i := 6) sc_nth_between.nd rfl (Or.inl rfl) (pv 3))
    (pss_cons (ps_for PassesOwn.never rfl (pi_range2 (by rfl) B.b_range (pa_cons (pe_callD D_month_number hr (by decide) (by rfl) (pa_cons (pv 4) pa_nil)) (pa_cons (pe_op op_add (pe_callD D_month_number hr (by decide) (by rfl) (pa_cons (pv 5) pa_nil)) pe_int) pa_nil))) (pg_name (i := 7) sc_nth_between.nd rfl (Or.inl rfl))
     (pss_cons (ps_set (i := 8) sc_nth_between.nd rfl (Or.inl rfl) (pe_callD D_count_in_month hr (by decide) (by rfl) (pa_cons (pv 0) (pa_cons (pv 7) (pa_cons (pv 4) (pa_cons (pv 5) pa_nil))))))
      (pss_cons (ps_if (pt_cmpR op_lt (pv 6) (pv 8) (nomark _))
       (pss_one (ps_ret (pe_callD D_nth_in_month hr (by decide) (by rfl) (pa_cons (pv 0) (pa_cons (pv 7) (pa_cons (pv 4) (pa_cons (pv 6) pa_nil)))))))
       pss_nil)
      (pss_one (ps_aug (i := 6) sc_nth_between.nd rfl (Or.inl rfl) (pv 8) ip_sub)))))
    (pss_one (ps_ret pe_non))))))), ?_⟩), hm, F.kp, F.binds fun _ _ _ _ _ _ us hl => match us, hl with | [_, _, _, _], _ => rfl⟩
  · obtain ⟨a, r, x, y, k, rfl, _⟩ := h
    rfl
  · obtain ⟨a, r, x, y, k, rfl, ra, ok, cx, cy, k0, h⟩ := h
    have ra0 := ra
    obtain ⟨dx, lm, lo, tb, ha, hm, ho, ht⟩ := ra
    rw [dl_low ok] at h
    refine ⟨_, rfl, _, rfl, a, _, dx, _, _, rfl, ha, R.cl, R.n3, reF_first, _, _, rfl, ?_⟩
    change gName 4 (V.int (mxP x r.from_)) _ _ _
    refine ⟨_, rfl, _, rfl, a, _, dx, _, _, rfl, ha, R.cl, R.n4, reF_last, _, _, rfl, ?_⟩
    change gName 5 (V.int (mnP y r.last)) _ _ _
    obtain ⟨cl, fl⟩ := low_cal ok cx
    obtain ⟨ch, hl⟩ := high_cal ok cy
    generalize mxP x r.from_ = low at *
    generalize mnP y r.last = high at *
    refine ⟨_, rfl, _, rfl, _, _, rfl, rfl, _, rfl, ?_⟩
    by_cases c : high < low
    · refine ifT (decide_eq_true c) ?_
      rw [if_pos c] at h
      exact h H (Same.refl H)
    refine ifF (decide_eq_false c) ?_
    rw [if_neg c] at h
    have lh : low ≤ high := by omega
    have r1 := monNo_range cl
    have r2 := monNo_range ch
    refine ⟨_, rfl, ?_⟩
    refine ⟨_, rfl, low, rfl, cl, fun H1 s1 => ⟨_, rfl, high, rfl, ch, fun H2 s2 => ⟨_, _, rfl, rfl, ?_⟩⟩⟩
    refine ⟨_, _, rfl, ⟨by omega, by omega, by omega, by omega⟩, ?_⟩
    refine for_range (lo := monNo low) (n := (monNo high + 1 - monNo low).toNat) (fun i σ H' => (∃ v v', σ = [some (.ref a), some (.int x), some (.int y), some (.int k), some (.int low), some (.int high), some (.int (k - (cn (Tm.isOne r.to) low (mnP high (mfst (monNo low + i) - 1)) : Nat))), v, v']) ∧ (cn (Tm.isOne r.to) low (mnP high (mfst (monNo low + i) - 1)) : Nat) ≤ k ∧ Same H H') ⟨⟨none, none, ?_⟩, ?_, s1.trans s2⟩ ?_ ?_
    · have a := monNo_in cl
      rw [show monNo low + ((0 : Nat) : Int) = monNo low by omega, mnP_first a.1 lh, cn_empty _ (by omega), show k - ((0 : Nat) : Int) = k by omega]
      rfl
    · have a := monNo_in cl
      rw [show monNo low + ((0 : Nat) : Int) = monNo low by omega, mnP_first a.1 lh, cn_empty _ (by omega)]
      exact k0
    · rintro i σ H' hi ⟨⟨v, v', rfl⟩, ck, s⟩
      obtain ⟨I, em⟩ := walk_in cl ch fl hl lh (i := i) (by omega)
      have st := inC_step I
      have sl := inL_step I
      rw [em] at ck
      refine ⟨_, rfl, _, rfl, _, rfl, _, rfl, a, r, monNo low + i, low, high, rfl, ra0.same s, ok, I, fun H3 s3 => ?_⟩
      rw [em]
      refine ⟨_, rfl, _, rfl, _, _, rfl, rfl, _, rfl, ?_⟩
      by_cases t : k - (cn (Tm.isOne r.to) low (mfst (monNo low + i) - 1) : Nat) < (inC r (monNo low + i) low high : Nat)
      · refine ifT (decide_eq_true t) ?_
        refine ⟨_, rfl, _, rfl, _, rfl, _, rfl, a, r, monNo low + i, low, k - (cn (Tm.isOne r.to) low (mfst (monNo low + i) - 1) : Nat), high, rfl, (ra0.same s).same s3, ok, I, by omega, t, fun d hd H4 s4 => ?_⟩
        have mh : mnP high (mfst (monNo low + i + 1) - 1) ≤ high := by unfold mnP; split <;> omega
        have ml : low ≤ mnP high (mfst (monNo low + i + 1) - 1) + 1 := by
          have := I.qh
          unfold mnP
          split <;> omega
        have e : (dl (Tm.isOne r.to) low high)[k.toNat]? = some d := by
          rw [dl_split (Tm.isOne r.to) ml mh, sl, List.append_assoc, List.getElem?_append_right (by rw [dl_len]; omega), dl_len]
          rw [show k.toNat - cn (Tm.isOne r.to) low (mfst (monNo low + i) - 1) = (k - (cn (Tm.isOne r.to) low (mfst (monNo low + i) - 1) : Nat)).toNat by omega]
          rw [List.getElem?_append_left (by rw [inL_len]; omega)]
          exact hd
        rw [e] at h
        exact h H4 (s.trans (s3.trans s4))
      · refine ifF (decide_eq_false t) ?_
        refine ⟨_, rfl, _, rfl, _, _, rfl, rfl, ⟨some (.int (monNo low + i)), some (.int (inC r (monNo low + i) low high : Nat)), ?_⟩, ?_, s.trans s3⟩
        · rw [show monNo low + ((i + 1 : Nat) : Int) = monNo low + i + 1 by omega, st, Int.natCast_add]
          rw [show k - (((cn (Tm.isOne r.to) low (mfst (monNo low + i) - 1) : Nat) : Int) + (inC r (monNo low + i) low high : Nat)) = k - (cn (Tm.isOne r.to) low (mfst (monNo low + i) - 1) : Nat) - (inC r (monNo low + i) low high : Nat) by omega]
          rfl
        · rw [show monNo low + ((i + 1 : Nat) : Int) = monNo low + i + 1 by omega, st, Int.natCast_add]
          omega
    · rintro σ H' ⟨⟨v, v', rfl⟩, ck, s⟩
      rw [walk_end cl ch lh] at ck
      have e : (dl (Tm.isOne r.to) low high)[k.toNat]? = none := by
        rw [List.getElem?_eq_none]
        rw [dl_len]
        omega
      rw [e] at h
      exact h H' s
end
end Cc
set_option Elab.async false
set_option maxRecDepth 100000
set_option maxHeartbeats 2000000
set_option linter.unusedSimpArgs false
set_option linter.unusedVariables false
namespace Cc
open PySem PySem.Spec PyProof.Rows L2
/-! ## The answers of what recurs -/
def ansIsone (R : Option Tm.Recur) (n : Int) : List Int := match R with
  | none => [-3]
  | some r => if Tm.isDay n = true then [if Tm.isOne r n = true then 1 else 0] else [-1]
def ansCount (R : Option Tm.Recur) (a b : Int) : List Int := match R with
  | none => [-3]
  | some r => if (Tm.isDay a && Tm.isDay b) = true then (if 100000 ≤ b - a then [-2] else [(cn (Tm.isOne r) a b : Nat)]) else [-1]
def ansNth (R : Option Tm.Recur) (a k : Int) : List Int := match R with
  | none => [-3]
  | some r => if Tm.isDay a = true ∧ 0 ≤ k then (match (dl (Tm.isOne r) a (a + 99999))[k.toNat]? with
    | some n => [0, n]
    | none => [-4]) else [-1]
theorem told_isone (s : Tm.State) (n : Int) : TmNeutral.told (Tm.step s (.isone n)).2 = ansIsone s.recur n := by
  unfold Tm.step ansIsone
  simp only
  cases s.recur with
  | none => rfl
  | some r =>
    simp only
    cases Tm.isDay n <;> cases Tm.isOne r n <;> rfl
theorem told_count (s : Tm.State) (a b : Int) : TmNeutral.told (Tm.step s (.count a b)).2 = ansCount s.recur a b := by
  unfold Tm.step ansCount
  simp only
  cases s.recur with
  | none => rfl
  | some r =>
    simp only
    rw [count_cn]
    have e : (Tm.SPAN : Int) = 100000 := rfl
    rw [e]
    cases Tm.isDay a <;> cases Tm.isDay b <;> simp [TmNeutral.told, Tm.num]
    by_cases c : 100000 ≤ b - a
    · rw [if_pos c, if_pos c]
    · rw [if_neg c, if_neg c]
theorem told_nth (s : Tm.State) (a k : Int) : TmNeutral.told (Tm.step s (.nth a k)).2 = ansNth s.recur a k := by
  unfold Tm.step ansNth
  simp only
  cases s.recur with
  | none => rfl
  | some r =>
    simp only
    rw [nth_dl]
    cases e : Tm.isDay a with
    | false => rw [if_pos (.inl rfl), if_neg (by simp)]; rfl
    | true =>
      by_cases c : 0 ≤ k
      · rw [if_neg (by simp; exact c), if_pos ⟨rfl, c⟩]
        cases (dl (Tm.isOne r) a (a + 99999))[k.toNat]? <;> rfl
      · rw [if_pos (.inr (by omega)), if_neg (fun q => c q.2)]
        rfl
theorem told_recur_none {s : Tm.State} {l : List Int} (e : Tm.recurOf l = none) : Tm.step s (.setrecur l) = (s, ⟨-5, []⟩) := by
  unfold Tm.step
  simp only
  rw [e]
  rfl
theorem told_recur_some {s : Tm.State} {l : List Int} {r : Tm.Recur} (e : Tm.recurOf l = some r) : Tm.step s (.setrecur l) = ({ s with recur := some r }, ⟨0, []⟩) := by
  unfold Tm.step
  simp only
  rw [e]
  rfl
/-- what is kept as the recurrence -/
def RcvAt (cR : Addr) (H : Hp) (v : V) : Option Tm.Recur → Prop
  | none => v = .non
  | some R => ∃ (b : Addr) (r : Rc), v = .ref b ∧ R = r.to ∧ r.Ok ∧ RecAt cR H b r
theorem RcvAt.same {cR : Addr} {H H' : Hp} {v : V} {R : Option Tm.Recur} (s : Same H H') (h : RcvAt cR H v R) : RcvAt cR H' v R := by
  cases R with
  | none => exact h
  | some R =>
    obtain ⟨b, r, h1, h2, h3, h4⟩ := h
    exact ⟨b, r, h1, h2, h3, h4.same s⟩
def keR (a : Addr) (v : V) : List (Str × V) := keF a [("recurrence", v)]
theorem keR_rec (a : Addr) (v : V) : (keR a v).lookup ("recurrence" : Str) = some v := (lk_past (by decide +kernel)).trans lk_here
theorem keR_put (a : Addr) (v u : V) : putF "recurrence" u (keR a v) = keR a u := (put_past (by decide +kernel)).trans (by rw [put_here]; rfl)
def KrAt (ck cR : Addr) (H : Hp) (p : Addr) (R : Option Tm.Recur) : Prop := ∃ dx a v, H p = some (.ins ck dx (keR a v)) ∧ RcvAt cR H v R
section
variable {P : Program} {w : World} {K : PySem.W.Frag} {mg : Str → Option Value} {base : Heap} {tbl C_Kept C_Recurrence : Addr}
abbrev s_answer_isone : Stmt := topS 96
theorem sc_answer_isone : FnScope ["kept", "n"] ["kept", "n"] (defScope s_answer_isone) := ⟨rfl, rfl, rfl, by decide +kernel, rfl, by decide +kernel, by decide +kernel⟩
def sp_answer_isone (ck cR : Addr) : Sp := fun vs H Q _ => ∃ (p : Addr) (R : Option Tm.Recur) (n : Int), vs = [.ref p, .int n] ∧ KrAt ck cR H p R ∧ giveL H Q (ansIsone R n)
theorem ok_answer_isone (B : Blt K mg tbl) (R : Rez K C_Recurrence) (Y : Kez K C_Kept) (Y2 : NoAttr K C_Kept "recurrence") (T : Txd K mg "answer_isone" s_answer_isone) (D_is_day : Df P w K mg base "is_day" ["n"] 1 (sp_is_day)) (D_is_one : Df P w K mg base "is_one" ["recurrence", "n"] 7 (sp_is_one C_Recurrence)) : Df P w K mg base "answer_isone" ["kept", "n"] 8 (sp_answer_isone C_Kept C_Recurrence) := by
  obtain ⟨f, fd, F, hm⟩ := T.ex
  refine ⟨f, fd, F.ok sc_answer_isone (fun vs H Q E h => ?_) (fun cdv A outer s H vs Q E hr h => ⟨_, (pss_cons (ps_if (pt_cmpR op_isN (pe_fld (pv 0) rfl) pe_non (nomark _))
     (pss_one (ps_ret (pe_lst (pa_cons (pe_un un_neg pe_int) pa_nil))))
     pss_nil)
    (pss_cons (ps_if (pt_not (pt_val (pe_callD D_is_day hr (by decide) (by rfl) (pa_cons (pv 1) pa_nil))))
     (pss_one (ps_ret (pe_lst (pa_cons (pe_un un_neg pe_int) pa_nil))))
     pss_nil)
    (pss_one (ps_ret (pe_lst (pa_cons (pe_ifExp (pt_val (pe_callD D_is_one hr (by decide) (by rfl) (pa_cons (pe_fld (pv 0) rfl) (pa_cons (pv 1) pa_nil)))) pe_int pe_int) pa_nil)))))), ?_⟩), hm, F.kp, F.binds fun _ _ _ _ _ _ us hl => match us, hl with | [_, _], _ => rfl⟩
  · obtain ⟨p, R, n, rfl, _⟩ := h
    rfl
  · obtain ⟨p, RR, n, rfl, ⟨dx, a, v, hp, hv⟩, h⟩ := h
    unfold ansIsone at h
    refine ⟨_, rfl, p, _, dx, _, _, rfl, hp, Y.cl, Y2, keR_rec _ _, rfl, _, rfl, ?_⟩
    cases RR with
    | none =>
      obtain rfl : v = .non := hv
      refine ifT (c := true) rfl ?_
      exact ⟨_, rfl, small_le (by show 1 ≤ 5000; decide), fun q hq => h.at (Same.refl H) hq⟩
    | some RR =>
      obtain ⟨b, r, rfl, rfl, ok, ra⟩ := hv
      refine ifF (c := false) rfl ?_
      simp only at h
      refine ⟨_, rfl, _, rfl, trivial, _, rfl, ?_⟩
      cases e : Tm.isDay n with
      | false =>
        rw [e] at h
        refine ifT (c := true) rfl ?_
        exact ⟨_, rfl, small_le (by show 1 ≤ 5000; decide), fun q hq => h.at (Same.refl H) hq⟩
      | true =>
        rw [e, if_pos rfl] at h
        refine ifF (c := false) rfl ?_
        refine ⟨_, rfl, p, _, dx, _, _, rfl, hp, Y.cl, Y2, keR_rec _ _, _, rfl, b, r, n, rfl, ra, ok, isDay_iff.mp e, fun H1 s1 => ⟨_, rfl, ?_⟩⟩
        cases e2 : Tm.isOne r.to n with
        | false =>
          rw [e2] at h
          refine ifF (c := false) rfl ?_
          exact ⟨small_le (by show 1 ≤ 5000; decide), fun q hq => h.at s1 hq⟩
        | true =>
          rw [e2] at h
          refine ifT (c := true) rfl ?_
          exact ⟨small_le (by show 1 ≤ 5000; decide), fun q hq => h.at s1 hq⟩
abbrev s_answer_count : Stmt := topS 97
theorem sc_answer_count : FnScope ["kept", "a", "b"] ["kept", "a", "b"] (defScope s_answer_count) := ⟨rfl, rfl, rfl, by decide +kernel, rfl, by decide +kernel, by decide +kernel⟩
def sp_answer_count (ck cR : Addr) : Sp := fun vs H Q _ => ∃ (p : Addr) (R : Option Tm.Recur) (x y : Int), vs = [.ref p, .int x, .int y] ∧ KrAt ck cR H p R ∧ giveL H Q (ansCount R x y)
theorem ok_answer_count (B : Blt K mg tbl) (R : Rez K C_Recurrence) (Y : Kez K C_Kept) (Y2 : NoAttr K C_Kept "recurrence") (T : Txd K mg "answer_count" s_answer_count) (D_count_between : Df P w K mg base "count_between" ["recurrence", "a", "b"] 6 (sp_count_between C_Recurrence)) (D_is_day : Df P w K mg base "is_day" ["n"] 1 (sp_is_day)) : Df P w K mg base "answer_count" ["kept", "a", "b"] 7 (sp_answer_count C_Kept C_Recurrence) := by
  obtain ⟨f, fd, F, hm⟩ := T.ex
  refine ⟨f, fd, F.ok sc_answer_count (fun vs H Q E h => ?_) (fun cdv A outer s H vs Q E hr h => ⟨_, (pss_cons (ps_if (pt_cmpR op_isN (pe_fld (pv 0) rfl) pe_non (nomark _))
     (pss_one (ps_ret (pe_lst (pa_cons (pe_un un_neg pe_int) pa_nil))))
     pss_nil)
    (pss_cons (ps_if (pt_not (PW.pt (pw_and (pt_val (pe_callD D_is_day hr (by decide) (by rfl) (pa_cons (pv 1) pa_nil))) (pw_and1 (pt_val (pe_callD D_is_day hr (by decide) (by rfl) (pa_cons (pv 2) pa_nil)))))))
     (pss_one (ps_ret (pe_lst (pa_cons (pe_un un_neg pe_int) pa_nil))))
     pss_nil)
    (pss_cons (ps_if (pt_cmpR op_ge (pe_op op_sub (pv 2) (pv 1)) (pe_gc (by rfl) B.MOST_LOOKED_AT) (nomark _))
     (pss_one (ps_ret (pe_lst (pa_cons (pe_un un_neg pe_int) pa_nil))))
     pss_nil)
    (pss_one (ps_ret (pe_lst (pa_cons (pe_callD D_count_between hr (by decide) (by rfl) (pa_cons (pe_fld (pv 0) rfl) (pa_cons (pv 1) (pa_cons (pv 2) pa_nil)))) pa_nil))))))), ?_⟩), hm, F.kp, F.binds fun _ _ _ _ _ _ us hl => match us, hl with | [_, _, _], _ => rfl⟩
  · obtain ⟨p, R, x, y, rfl, _⟩ := h
    rfl
  · obtain ⟨p, RR, x, y, rfl, ⟨dx, a, v, hp, hv⟩, h⟩ := h
    unfold ansCount at h
    refine ⟨_, rfl, p, _, dx, _, _, rfl, hp, Y.cl, Y2, keR_rec _ _, rfl, _, rfl, ?_⟩
    cases RR with
    | none =>
      obtain rfl : v = .non := hv
      refine ifT (c := true) rfl ?_
      exact ⟨_, rfl, small_le (by show 1 ≤ 5000; decide), fun q hq => h.at (Same.refl H) hq⟩
    | some RR =>
      obtain ⟨b, r, rfl, rfl, ok, ra⟩ := hv
      refine ifF (c := false) rfl ?_
      simp only at h
      refine ⟨_, rfl, _, rfl, trivial, _, rfl, ?_⟩
      cases e : Tm.isDay x with
      | false =>
        rw [e, Bool.false_and] at h
        refine ifF (c := false) rfl (ifT (c := true) rfl ?_)
        exact ⟨_, rfl, small_le (by show 1 ≤ 5000; decide), fun q hq => h.at (Same.refl H) hq⟩
      | true =>
        rw [e, Bool.true_and] at h
        refine ifT (c := true) rfl ?_
        refine ⟨_, rfl, _, rfl, trivial, _, rfl, ?_⟩
        cases e2 : Tm.isDay y with
        | false =>
          rw [e2] at h
          refine ifT (c := true) rfl ?_
          exact ⟨_, rfl, small_le (by show 1 ≤ 5000; decide), fun q hq => h.at (Same.refl H) hq⟩
        | true =>
          rw [e2, if_pos rfl] at h
          refine ifF (c := false) rfl ?_
          refine ⟨_, rfl, _, rfl, _, _, rfl, rfl, _, _, rfl, rfl, _, rfl, ?_⟩
          by_cases c : 100000 ≤ y - x
          · rw [if_pos c] at h
            refine ifT (decide_eq_true c) ?_
            exact ⟨_, rfl, small_le (by show 1 ≤ 5000; decide), fun q hq => h.at (Same.refl H) hq⟩
          · rw [if_neg c] at h
            refine ifF (decide_eq_false c) ?_
            exact ⟨_, rfl, p, _, dx, _, _, rfl, hp, Y.cl, Y2, keR_rec _ _, _, rfl, _, rfl, b, r, x, y, rfl, ra, ok, isDay_iff.mp e, (isDay_iff.mp e2).1, fun H1 s1 => ⟨small_le (by show 1 ≤ 5000; decide), fun q hq => h.at s1 hq⟩⟩
abbrev s_answer_nth : Stmt := topS 98
theorem sc_answer_nth : FnScope ["kept", "a", "k", "day"] ["kept", "a", "k"] (defScope s_answer_nth) := ⟨rfl, rfl, rfl, by decide +kernel, rfl, by decide +kernel, by decide +kernel⟩
def sp_answer_nth (ck cR : Addr) : Sp := fun vs H Q _ => ∃ (p : Addr) (R : Option Tm.Recur) (x k : Int), vs = [.ref p, .int x, .int k] ∧ KrAt ck cR H p R ∧ giveL H Q (ansNth R x k)
theorem ok_answer_nth (B : Blt K mg tbl) (R : Rez K C_Recurrence) (Y : Kez K C_Kept) (Y2 : NoAttr K C_Kept "recurrence") (T : Txd K mg "answer_nth" s_answer_nth) (D_nth_between : Df P w K mg base "nth_between" ["recurrence", "a", "b", "k"] 7 (sp_nth_between C_Recurrence)) (D_is_day : Df P w K mg base "is_day" ["n"] 1 (sp_is_day)) : Df P w K mg base "answer_nth" ["kept", "a", "k"] 8 (sp_answer_nth C_Kept C_Recurrence) := by
  obtain ⟨f, fd, F, hm⟩ := T.ex
  refine ⟨f, fd, F.ok sc_answer_nth (fun vs H Q E h => ?_) (fun cdv A outer s H vs Q E hr h => ⟨_, (pss_cons (ps_if (pt_cmpR op_isN (pe_fld (pv 0) rfl) pe_non (nomark _))
     (pss_one (ps_ret (pe_lst (pa_cons (pe_un un_neg pe_int) pa_nil))))
     pss_nil)
    (pss_cons (ps_if (PW.pt (pw_or (pt_not (pt_val (pe_callD D_is_day hr (by decide) (by rfl) (pa_cons (pv 1) pa_nil)))) (pw_or1 (pt_cmpR op_lt (pv 2) pe_int (nomark _)))))
     (pss_one (ps_ret (pe_lst (pa_cons (pe_un un_neg pe_int) pa_nil))))
     pss_nil)
    (pss_cons (ps_set (i := 3) sc_answer_nth.nd rfl (Or.inl rfl) (pe_callD D_nth_between hr (by decide) (by rfl) (pa_cons (pe_fld (pv 0) rfl) (pa_cons (pv 1) (pa_cons (pe_op op_sub (pe_op op_add (pv 1) (pe_gc (by rfl) B.MOST_LOOKED_AT)) pe_int) (pa_cons (pv 2) pa_nil))))))
    (pss_cons (ps_if (pt_cmpR op_isN (pv 3) pe_non (nomark _))
     (pss_one (ps_ret (pe_lst (pa_cons (pe_un un_neg pe_int) pa_nil))))
     pss_nil)
    (pss_one (ps_ret (pe_lst (pa_cons pe_int (pa_cons (pv 3) pa_nil))))))))), ?_⟩), hm, F.kp, F.binds fun _ _ _ _ _ _ us hl => match us, hl with | [_, _, _], _ => rfl⟩
  · obtain ⟨p, R, x, k, rfl, _⟩ := h
    rfl
  · obtain ⟨p, RR, x, k, rfl, ⟨dx, a, v, hp, hv⟩, h⟩ := h
    unfold ansNth at h
    refine ⟨_, rfl, p, _, dx, _, _, rfl, hp, Y.cl, Y2, keR_rec _ _, rfl, _, rfl, ?_⟩
    cases RR with
    | none =>
      obtain rfl : v = .non := hv
      refine ifT (c := true) rfl ?_
      exact ⟨_, rfl, small_le (by show 1 ≤ 5000; decide), fun q hq => h.at (Same.refl H) hq⟩
    | some RR =>
      obtain ⟨b, r, rfl, rfl, ok, ra⟩ := hv
      refine ifF (c := false) rfl ?_
      simp only at h
      refine ⟨_, rfl, _, rfl, trivial, _, rfl, ?_⟩
      cases e : Tm.isDay x with
      | false =>
        rw [if_neg (by rw [e]; simp)] at h
        refine ifT (c := true) rfl (ifT (c := true) rfl ?_)
        exact ⟨_, rfl, small_le (by show 1 ≤ 5000; decide), fun q hq => h.at (Same.refl H) hq⟩
      | true =>
        refine ifF (c := false) rfl ?_
        refine ⟨_, rfl, _, _, rfl, rfl, _, rfl, ?_⟩
        by_cases c : k < 0
        · rw [if_neg (fun q => by omega)] at h
          refine ifT (decide_eq_true c) ?_
          exact ⟨_, rfl, small_le (by show 1 ≤ 5000; decide), fun q hq => h.at (Same.refl H) hq⟩
        · rw [if_pos ⟨e, by omega⟩] at h
          refine ifF (decide_eq_false c) ?_
          have cx := isDay_iff.mp e
          refine ⟨_, rfl, p, _, dx, _, _, rfl, hp, Y.cl, Y2, keR_rec _ _, _, rfl, _, rfl, _, _, rfl, rfl, _, _, rfl, rfl, _, rfl, b, r, x, x + 100000 - 1, k, rfl, ra, ok, cx, by omega, by omega, fun H1 s1 => ?_⟩
          rw [show x + 100000 - 1 = x + 99999 by omega]
          cases e3 : (dl (Tm.isOne r.to) x (x + 99999))[k.toNat]? with
          | none =>
            rw [e3] at h
            refine ⟨_, rfl, rfl, _, rfl, ifT (c := true) rfl ?_⟩
            exact ⟨_, rfl, small_le (by show 1 ≤ 5000; decide), fun q hq => h.at s1 hq⟩
          | some d =>
            rw [e3] at h
            refine ⟨_, rfl, rfl, _, rfl, ifF (c := false) rfl ?_⟩
            exact ⟨_, rfl, small_le (by show 2 ≤ 5000; decide), fun q hq => h.at s1 hq⟩
abbrev s_answer_setrecur : Stmt := topS 95
theorem sc_answer_setrecur : FnScope ["kept", "numbers", "recurrence"] ["kept", "numbers"] (defScope s_answer_setrecur) := ⟨rfl, rfl, rfl, by decide +kernel, rfl, by decide +kernel, by decide +kernel⟩
/-- the object's recurrence is another now -/
def setR (ck cR : Addr) (H H' : Hp) (p : Addr) (r : Rc) : Prop := (∀ dx a v, H p = some (.ins ck dx (keR a v)) → ∃ b, H' p = some (.ins ck dx (keR a (.ref b))) ∧ RecAt cR (fresh H H') b r) ∧ ∀ b o, b ≠ p → H b = some o → H' b = some o
def sp_answer_setrecur (K : PySem.W.Frag) (ck cR : Addr) : Sp := fun vs H Q _ => ∃ (p a : Addr) (ns : List Int) (R0 : Option Tm.Recur), vs = [.ref p, .ref a] ∧ KrAt ck cR H p R0 ∧ SqL K H a (ns.map V.int) ∧ ns.length ≤ 1000 ∧ (Tm.recurOf ns = none → giveL H Q [-5]) ∧
  (∀ r : Rc, Tm.recurOf ns = some r.to → r.Ok → ∀ q H', H q = none → H' q = some (.lst [.int 0]) → setR ck cR H H' p r → Q (.ref q) H')
theorem ok_answer_setrecur (B : Blt K mg tbl) (Y : Kez K C_Kept) (Y2 : NoAttr K C_Kept "recurrence") (T : Txd K mg "answer_setrecur" s_answer_setrecur) (D_recurrence_from : Df P w K mg base "recurrence_from" ["numbers"] 7 (sp_recurrence_from K C_Recurrence)) : Df P w K mg base "answer_setrecur" ["kept", "numbers"] 8 (sp_answer_setrecur K C_Kept C_Recurrence) := by
  obtain ⟨f, fd, F, hm⟩ := T.ex
  refine ⟨f, fd, F.ok sc_answer_setrecur (fun vs H Q E h => ?_) (fun cdv A outer s H vs Q E hr h => ⟨_, (pss_cons (ps_set (i := 2) sc_answer_setrecur.nd rfl (Or.inl rfl) (pe_callD D_recurrence_from hr (by decide) (by rfl) (pa_cons (pv 1) pa_nil)))
    (pss_cons (ps_if (pt_cmpR op_isN (pv 2) pe_non (nomark _))
     (pss_one (ps_ret (pe_lst (pa_cons (pe_un un_neg pe_int) pa_nil))))
     pss_nil)
    (pss_cons (ps_fld (pv 0) (pv 2) rfl)
    (pss_one (ps_ret (pe_lst (pa_cons pe_int pa_nil))))))), ?_⟩), hm, F.kp, F.binds fun _ _ _ _ _ _ us hl => match us, hl with | [_, _], _ => rfl⟩
  · obtain ⟨p, a, ns, c, rfl, _⟩ := h
    rfl
  · obtain ⟨p, b, ns, R0, rfl, ⟨dx, a, v, hp, hv⟩, hs, hl, hN, hS⟩ := h
    refine ⟨_, rfl, b, ns, rfl, hs, hl, fun e H' s' => ?_, fun r e ok x H1 s1 nx hx => ?_⟩
    · refine ⟨_, rfl, rfl, _, rfl, ifT (c := true) rfl ?_⟩
      exact ⟨_, rfl, small_le (by show 1 ≤ 5000; decide), fun q hq => (hN e).at s' hq⟩
    · refine ⟨_, rfl, rfl, _, rfl, ifF (c := false) rfl ?_⟩
      have hp1 := s1 _ _ hp
      refine ⟨_, rfl, _, rfl, p, _, dx, _, rfl, hp1, Y.cl, Y2, (by show 2 < 1000; decide), ?_⟩
      rw [keR_put]
      have ef : fresh H (upd H1 p (.ins C_Kept dx (keR a (.ref x)))) = fresh H H1 := fresh_put hp
      have G : Grow H (upd H1 p (.ins C_Kept dx (keR a (.ref x)))) p := ((Grow.refl H p).same s1).put hp1
      have hp2 : upd H1 p (.ins C_Kept dx (keR a (.ref x))) p = some (.ins C_Kept dx (keR a (.ref x))) := upd_same
      rw [← ef] at hx
      generalize upd H1 p (.ins C_Kept dx (keR a (.ref x))) = H2 at *
      refine ⟨small_le (by show 1 ≤ 5000; decide), fun q hq => ?_⟩
      have sq : Same H2 (upd H2 q (.lst [.int 0])) := Same.new hq
      refine hS r e ok q _ (G.fe q hq) upd_same ⟨fun dx' a' v' e' => ?_, fun b o nb eb => sq _ _ (G.fr b o nb eb)⟩
      rw [hp] at e'
      injection e' with e'
      injection e' with _ e1 e2
      injection e2 with e3 _
      injection e3 with _ e3
      injection e3 with e3
      subst e1 e3
      exact ⟨x, sq _ _ hp2, hx.same (fresh_mono sq)⟩
end
end Cc
set_option Elab.async false
set_option maxRecDepth 100000
set_option maxHeartbeats 2000000
set_option linter.unusedSimpArgs false
set_option linter.unusedVariables false
namespace Cc
open PySem PySem.Spec PyProof.Rows L2
/-! ## The list of calls -/
def StAt (cc cr cl ck cR : Addr) (H : Hp) (p : Addr) (s : Tm.State) : Prop := ∃ c : Ck, s.clock = c.to ∧ c.Ok ∧ ∃ (dx a : Addr) (v : V), H p = some (.ins ck dx (keR a v)) ∧ ClkAt cc cr cl H a c ∧ RcvAt cR H v s.recur
/-- what a call may change: the object alone -/
def Frm (H H' : Hp) (p : Addr) : Prop := ∀ b o, b ≠ p → H b = some o → H' b = some o
def sp_Kept (cc cr cl ck cR : Addr) : Sp := fun vs H Q _ => ∃ p dx : Addr, vs = [.ref p] ∧ H p = some (.ins ck dx []) ∧ ∀ H', StAt cc cr cl ck cR H' p Tm.start → Frm H H' p → Q .non H'
/-- the heap without one place -/
def hide (H : Hp) (T : Addr) : Hp := fun b => if b = T then none else H b
theorem hide_sub {H : Hp} {T : Addr} : Same (hide H T) H := fun b o e => by
  unfold hide at e
  split at e
  · cases e
  · exact e
theorem hide_ne {H : Hp} {T b : Addr} (h : b ≠ T) : hide H T b = H b := if_neg h
theorem hide_mono {H H' : Hp} {T : Addr} (s : Same H H') : Same (hide H T) (hide H' T) := fun b o e => by
  unfold hide at e ⊢
  split at e
  · cases e
  · next q => rw [if_neg q]; exact s b o e
theorem hide_upd {H : Hp} {T : Addr} {o : HO} : hide (upd H T o) T = hide H T := by
  funext b
  unfold hide
  split
  · rfl
  · next q => rw [upd_ne q]
theorem hide_new {H : Hp} {T : Addr} {o : HO} (h : H T = none) : Same H (hide (upd H T o) T) := fun b q e => by
  have : b ≠ T := fun z => by rw [z, h] at e; cases e
  rw [hide_ne this, upd_ne this]
  exact e
theorem fresh_hide {H H' : Hp} {T : Addr} {o : HO} (h : H T = some o) : Same (fresh H H') (hide H' T) := fun b q e => by
  unfold fresh at e
  split at e
  · next z => rw [hide_ne (fun y => by rw [y, h] at z; cases z)]; exact e
  · cases e
/-- a call on the object: a list elsewhere (T) that it doesn't reach stays out of its reach -/
def sp_answer_call (K : PySem.W.Frag) (cc cr cl ck cR : Addr) : Sp := fun vs H Q _ => ∃ (p a T : Addr) (oT : HO) (s : Tm.State) (pl : Int) (ns : List Int), vs = [.ref p, .int pl, .ref a] ∧ H T = some oT ∧ StAt cc cr cl ck cR (hide H T) p s ∧ SqL K H a (ns.map V.int) ∧ ns.length ≤ 600 ∧ TmNeutral.asked1 [pl :: ns] = true ∧
  ∀ q H', H q = none → H' q = some (.lst ((TmNeutral.step s [pl :: ns]).2.map V.int)) → StAt cc cr cl ck cR (hide H' T) p (TmNeutral.step s [pl :: ns]).1 → Frm H H' p → Q (.ref q) H'
def sp_answers (K : PySem.W.Frag) : Sp := fun vs H Q _ => ∃ (a : Addr) (ns : List Int), vs = [.ref a] ∧ SqL K H a (ns.map V.int) ∧ ns.length ≤ 15000 ∧ PyWrtime.answers_asked ns = true ∧ ∀ (H' : Hp) (p : Addr), H' p = some (.lst ((PyWrtime.answers ns).map V.int)) → Q (.ref p) H'
theorem Same.frm {H H' : Hp} {p : Addr} (s : Same H H') : Frm H H' p := fun b o _ e => s b o e
theorem SqL.frm {K : PySem.W.Frag} {H H' : Hp} {a p : Addr} {xs : List V} (h : SqL K H a xs) (f : Frm H H' p) (hp : ∀ l, H p ≠ some (.lst l)) (hp' : ∀ o u, H p ≠ some (.frz o u)) : SqL K H' a xs := by
  rcases h with h | h
  · left
    rcases h with h | ⟨o, h⟩
    · exact .inl (f _ _ (fun z => hp _ (z ▸ h)) h)
    · exact .inr ⟨o, f _ _ (fun z => hp' _ _ (z ▸ h)) h⟩
  · exact .inr h
theorem StAt.ins {cc cr cl ck cR : Addr} {H : Hp} {p : Addr} {s : Tm.State} (h : StAt cc cr cl ck cR H p s) : (∃ dx fs, H p = some (.ins ck dx fs)) := by
  obtain ⟨c, _, _, dx, a, v, hp, _⟩ := h
  exact ⟨dx, _, hp⟩
theorem StAt.same {cc cr cl ck cR : Addr} {H H' : Hp} {p : Addr} {s : Tm.State} (e : Same H H') (h : StAt cc cr cl ck cR H p s) : StAt cc cr cl ck cR H' p s := by
  obtain ⟨c, h1, h2, dx, a, v, hp, hc, hv⟩ := h
  exact ⟨c, h1, h2, dx, a, v, e _ _ hp, hc.same e, hv.same e⟩
theorem sIx_in {n d : Nat} {i : Int} (h0 : 0 ≤ i) (h1 : i ≤ n) : HT.sIx n d (some i) = i.toNat := by
  show (if i < 0 then (i + (n : Int)).toNat else min i.toNat n) = i.toNat
  rw [if_neg (by omega)]
  omega
theorem cut_is {ns pre xs post : List Int} {i j : Int} (e : ns = pre ++ (xs ++ post)) (hi : i = pre.length) (hj : j = i + xs.length) : cutV (ns.map V.int) (some i) (some j) = xs.map V.int := by
  unfold cutV
  have l : (ns.map V.int).length = pre.length + (xs.length + post.length) := by rw [List.length_map, e, List.length_append, List.length_append]
  rw [sIx_in (by omega) (by omega), sIx_in (by omega) (by omega), ← List.map_drop, ← List.map_take]
  rw [show i.toNat = pre.length by omega, show j.toNat - pre.length = xs.length by omega, e, List.drop_left, List.take_left]
end Cc
set_option Elab.async false
set_option maxRecDepth 100000
set_option maxHeartbeats 2000000
set_option linter.unusedSimpArgs false
set_option linter.unusedVariables false
namespace Cc
open PySem PySem.Spec PyProof.Rows L2
section
variable {P : Program} {w : World} {K : PySem.W.Frag} {mg : Str → Option Value} {base : Heap} {tbl C_Change C_Rule C_Clock C_Kept C_Recurrence : Addr}
theorem more_len {s : Tm.State} {c : Ck} (e : s.clock = c.to) (ok : c.Ok) (x : Tm.Call) : (Tm.step s x).2.more.length ≤ 100 := by
  cases x with
  | when_ y m d h mi se =>
    simp only [Tm.step, e]
    split
    · exact Nat.zero_le _
    · split
      · exact Nat.zero_le _
      · exact whens_len ok _
  | _ =>
    simp only [Tm.step]
    repeat' split
    all_goals first
      | exact Nat.zero_le _
      | decide
      | (simp only [Tm.nums, Tm.num, List.length_cons, List.length_nil]; omega)
theorem step_len {s : Tm.State} {c : Ck} (e : s.clock = c.to) (ok : c.Ok) (x : List (List Int)) : (TmNeutral.step s x).2.length ≤ 101 := by
  unfold TmNeutral.step
  split
  · next y _ =>
    have := more_len e ok y
    show ((Tm.step s y).2.more.length + 1) ≤ 101
    omega
  · exact Nat.zero_le _
theorem big_len {n : Nat} (h : n ≤ 100000) : n < sizeLine := Nat.lt_of_le_of_lt h (by decide)
abbrev s_answers : Stmt := topS 100
theorem sc_answers : FnScope ["calls", "kept", "told", "at", "end", "answer"] ["calls"] (defScope s_answers) := ⟨rfl, rfl, rfl, by decide +kernel, rfl, by decide +kernel, by decide +kernel⟩
theorem fn_answers (B : Blt K mg tbl) {f : Addr} {fd : FuncData} (F : Fun K "answers" "answers" s_answers f fd) (M_Kept : Dc P w K mg base "Kept" C_Kept ["self"] 3 (sp_Kept C_Change C_Rule C_Clock C_Kept C_Recurrence)) (D_answer_call : Df P w K mg base "answer_call" ["kept", "call", "numbers"] 10 (sp_answer_call K C_Change C_Rule C_Clock C_Kept C_Recurrence)) : FnOk P w K mg base CX0 11 f fd ["calls"] (sp_answers K) := by
  refine F.ok sc_answers (fun vs H Q E h => ?_) (fun cdv A outer s H vs Q E hr h => ⟨_, (pss_cons (ps_set (i := 1) sc_answers.nd rfl (Or.inl rfl) (pe_make0D M_Kept hr (by decide) (by rfl)))
    (pss_cons (ps_set (i := 2) sc_answers.nd rfl (Or.inl rfl) (pe_lst pa_nil))
    (pss_cons (ps_set (i := 3) sc_answers.nd rfl (Or.inl rfl) pe_int)
    (pss_cons (ps_while PassesOwn.never (pt_cmpR op_lt (pv 3) (pe_callB call_len_seq (by rfl) B.b_len (by decide +kernel) (pa_cons (pv 0) pa_nil)) (nomark _))
     (pss_cons (ps_set (i := 4) sc_answers.nd rfl (Or.inl rfl) (pe_op op_add (pe_op op_add (pv 3) pe_int) (pe_ix ix_list (pv 0) (pe_op op_add (pv 3) pe_int) (fun _ _ => rfl))))
      (pss_cons (ps_set (i := 5) sc_answers.nd rfl (Or.inl rfl) (pe_callD D_answer_call hr (by decide) (by rfl) (pa_cons (pv 1) (pa_cons (pe_ix ix_list (pv 0) (pv 3) (fun _ _ => rfl)) (pa_cons (pe_slice sl_list (pv 0) (po_some (pe_op op_add (pv 3) pe_int)) (po_some (pv 4))) pa_nil)))))
      (pss_cons (ps_expr (pe_bm PySem.F.plainAttrs_list PySem.F.slot_list_append PySem.F.type_list_append mt_append (pv 2) (pa_cons (pe_callB call_len_seq (by rfl) B.b_len (by decide +kernel) (pa_cons (pv 5) pa_nil)) pa_nil)))
      (pss_cons (ps_expr (pe_bm PySem.F.plainAttrs_list PySem.F.slot_list_extend PySem.F.type_list_extend mt_extend (pv 2) (pa_cons (pv 5) pa_nil)))
      (pss_one (ps_set (i := 3) sc_answers.nd rfl (Or.inl rfl) (pe_op op_add (pv 4) pe_int))))))))
    (pss_one (ps_ret (pv 2))))))), ?_⟩)
  · obtain ⟨a, ns, rfl, _⟩ := h
    rfl
  · obtain ⟨a, ns, rfl, hs, hl, hask, h⟩ := h
    obtain ⟨cs, ask⟩ := asked_of hask
    rw [ask.ans] at h
    -- kept = Kept()
    intro k dk nk ndk nek
    refine ⟨k, dk, rfl, upd_same, fun H1 st1 f1 => ⟨rfl, ?_⟩⟩
    have s1 : Same H H1 := fun b o e => by
      have n1 : b ≠ k := fun z => by rw [z, nk] at e; cases e
      have n2 : b ≠ dk := fun z => by rw [z, ndk] at e; cases e
      exact f1 b o n1 (by rw [upd_ne n1, upd_ne n2]; exact e)
    -- told = []
    refine ⟨small_le (by show 0 ≤ 5000; decide), fun T hT => ?_⟩
    have s2 : Same H1 (upd H1 T (.lst [])) := Same.new hT
    have st2 : StAt C_Change C_Rule C_Clock C_Kept C_Recurrence (hide (upd H1 T (.lst [])) T) k Tm.start := st1.same (hide_new hT)
    have hT2 : upd H1 T (.lst []) T = some (.lst []) := upd_same
    have hsA : ∀ H' : Hp, (∀ b o, b ≠ k → b ≠ T → upd H1 T (.lst []) b = some o → H' b = some o) → SqL K H' a (ns.map V.int) := by
      intro H' f
      have lift : ∀ o, H a = some o → H' a = some o := fun o e => by
        have e1 := s1 _ _ e
        have n1 : a ≠ T := fun z => by rw [z, hT] at e1; cases e1
        have n2 : a ≠ k := fun z => by rw [z, nk] at e; cases e
        exact f a o n2 n1 (by rw [upd_ne n1]; exact e1)
      rcases hs with hs | hs
      · left
        rcases hs with hs | ⟨o, hs⟩
        · exact .inl (lift _ hs)
        · exact .inr ⟨o, lift _ hs⟩
      · exact .inr hs
    generalize upd H1 T (.lst []) = H2 at *
    refine ⟨fun m σ H' => ∃ (done todo : List (List (List Int))) (pre : List Int) (v v' : Option V), m = todo.length ∧ cs = done ++ todo ∧ ns = pre ++ PyWide.put todo ∧ σ = [some (.ref a), some (.ref k), some (.ref T), some (.int (pre.length : Nat)), v, v'] ∧ (∀ b o, b ≠ k → b ≠ T → H2 b = some o → H' b = some o) ∧ H' T = some (.lst ((toldS done).map V.int)) ∧ (toldS done).length ≤ 102 * done.length ∧ StAt C_Change C_Rule C_Clock C_Kept C_Recurrence (hide H' T) k (runS Tm.start done), ⟨_, [], cs, [], none, none, rfl, rfl, ask.put, rfl, fun _ _ _ _ e => e, hT2, Nat.le_refl _, st2⟩, ?_⟩
    rintro m σ H3 ⟨done, todo, pre, v, v', rfl, ecs, ens, rfl, fr3, hT3, ln3, st3⟩
    have hs3 := hsA H3 fr3
    refine ⟨_, rfl, _, rfl, a, _, rfl, .inl hs3, _, _, rfl, rfl, _, rfl, ?_⟩
    rw [List.length_map]
    cases todo with
    | nil =>
      refine ifF (decide_eq_false ?_) ?_
      · rw [ens]
        simp [PyWide.put]
      · refine ⟨_, rfl, ?_⟩
        refine h H3 T ?_
        rw [ecs, List.append_nil]
        exact hT3
    | cons c todo =>
      obtain ⟨pl, xs, rfl, xl, askc⟩ := ask.row c (by rw [ecs]; simp)
      have ep : PyWide.put ([pl :: xs] :: todo) = pl :: (xs.length : Int) :: (xs ++ ((0 : Int) :: PyWide.put todo)) := by
        show (pl :: ((((xs.length : Int) :: xs) ++ ((0 : Int) :: [])))) ++ PyWide.put todo = _
        simp
      rw [ep] at ens
      have nl : ns.length = pre.length + (xs.length + (PyWide.put todo).length + 3) := by
        rw [ens]
        simp
        omega
      refine ifT (decide_eq_true (by omega)) ?_
      refine ⟨_, fun _ _ z => z, ?_⟩
      -- end = at + 2 + calls[at + 1]
      have a0 : ns.getD pre.length 0 = pl := by rw [ens]; simp [List.getD]
      have a1 : ns.getD (pre.length + 1) 0 = xs.length := by rw [ens]; simp [List.getD, List.getElem?_append]
      refine ⟨_, rfl, _, _, rfl, rfl, _, rfl, _, rfl, _, _, rfl, rfl, a, _, _, _, rfl, rfl, hs3, at_k (k := pre.length + 1) (by omega) (by omega), _, _, rfl, rfl, ?_⟩
      rw [a1]
      -- answer = answer_call(kept, calls[at], calls[at + 2:end])
      refine ⟨_, rfl, _, rfl, _, rfl, a, _, _, _, rfl, rfl, hs3, at_k (k := pre.length) rfl (by omega), ?_⟩
      rw [a0]
      refine ⟨_, rfl, _, rfl, _, _, rfl, rfl, _, rfl, _, rfl, _, rfl, a, _, rfl, hs3, fun q hq => ?_⟩
      rw [cut_is (pre := pre ++ [pl, (xs.length : Int)]) (xs := xs) (post := (0 : Int) :: PyWide.put todo) (by rw [ens]; simp) (by simp) (by simp)]
      have nqT : q ≠ T := fun z => by rw [z, hT3] at hq; cases hq
      have s4 : Same H3 (upd H3 q (.lst (xs.map V.int))) := Same.new hq
      have hq4 : upd H3 q (.lst (xs.map V.int)) q = some (.lst (xs.map V.int)) := upd_same
      generalize upd H3 q (.lst (xs.map V.int)) = H4 at *
      refine ⟨k, q, T, _, _, pl, xs, rfl, s4 _ _ hT3, st3.same (hide_mono s4), SqL.of hq4, xl, askc, fun r H5 nr hr st5 f5 => ?_⟩
      obtain ⟨dk3, fk3, hk3⟩ := st3.ins
      have hk4 : H4 k = some (.ins C_Kept dk3 fk3) := s4 _ _ (hide_sub _ _ hk3)
      have nTk : T ≠ k := fun z => by have := s4 _ _ hT3; rw [z, hk4] at this; cases this
      have hT5 := f5 _ _ nTk (s4 _ _ hT3)
      have nrT : r ≠ T := fun z => by rw [z, s4 _ _ hT3] at nr; cases nr
      obtain ⟨cc, ecc, okcc, _⟩ := st3
      have sl := step_len ecc okcc [pl :: xs]
      have tl := toldS_more done [pl :: xs]
      have rn := runS_more TmNeutral.start done [pl :: xs]
      change (TmNeutral.step (runS TmNeutral.start done) [pl :: xs]).2.length ≤ 101 at sl
      change H5 r = some (.lst ((TmNeutral.step (runS TmNeutral.start done) [pl :: xs]).2.map V.int)) at hr
      change StAt C_Change C_Rule C_Clock C_Kept C_Recurrence (hide H5 T) k (TmNeutral.step (runS TmNeutral.start done) [pl :: xs]).1 at st5
      rw [← rn] at st5
      generalize (TmNeutral.step (runS TmNeutral.start done) [pl :: xs]).2 = an at *
      have dl : done.length ≤ 400 := by
        have := ask.len
        rw [ecs, List.length_append] at this
        omega
      -- told.append(len(answer))
      refine ⟨_, rfl, .inl ⟨rfl, _, SqL.of hT5⟩, _, rfl, r, _, rfl, .inl (SqL.of hr), T, _, _, rfl, rfl, hT5, by rw [List.length_map]; exact big_len (by omega), ?_⟩
      have hr6 : upd H5 T (.lst ((toldS done).map V.int ++ [.int ((an.map V.int).length : Nat)])) r = some (.lst (an.map V.int)) := by rw [upd_ne nrT]; exact hr
      -- told.extend(answer)
      refine ⟨_, rfl, .inl ⟨rfl, _, SqL.of upd_same⟩, _, rfl, T, r, _, _, rfl, rfl, upd_same, hr6, ?_, ?_⟩
      · rw [List.length_append, List.length_map, List.length_map]
        exact Nat.le_of_lt (big_len (by show _ + 1 + _ ≤ 100000; omega))
      refine ⟨_, rfl, _, _, rfl, rfl, ?_⟩
      refine ⟨todo.length, Nat.lt_succ_self _, done ++ [[pl :: xs]], todo, pre ++ (pl :: (xs.length : Int) :: (xs ++ [0])), some (.int ((pre.length : Int) + 2 + (xs.length : Int))), some (.ref r), rfl, by rw [ecs]; simp, by rw [ens]; simp, ?_, ?_, ?_, ?_, ?_⟩
      · have e : (((pre ++ (pl :: (xs.length : Int) :: (xs ++ [0]))).length : Nat) : Int) = (pre.length : Int) + 2 + (xs.length : Int) + 1 := by
          simp
          omega
        rw [e]
        rfl
      · intro b o n1 n2 e
        rw [upd_upd, upd_ne n2]
        exact f5 _ _ n1 (s4 _ _ (fr3 b o n1 n2 e))
      · rw [upd_upd, upd_same, tl, List.map_append, List.length_map]
        simp
      · rw [tl, List.length_append, List.length_append, List.length_cons, List.length_singleton]
        omega
      · rw [upd_upd, hide_upd]
        exact st5
end
end Cc
set_option Elab.async false
set_option maxRecDepth 100000
set_option maxHeartbeats 2000000
set_option linter.unusedSimpArgs false
set_option linter.unusedVariables false
namespace Cc
open PySem PySem.Spec PyProof.Rows L2
section
variable {P : Program} {w : World} {K : PySem.W.Frag} {mg : Str → Option Value} {base : Heap} {tbl C_Change C_Rule C_Clock C_Kept C_Recurrence : Addr}
theorem KepAt.same {cc cr cl ck : Addr} {H H' : Hp} {p : Addr} {c : Ck} (e : Same H H') (h : KepAt cc cr cl ck H p c) : KepAt cc cr cl ck H' p c := by
  obtain ⟨dx, a, rest, hp, hl, hc⟩ := h
  exact ⟨dx, a, rest, e _ _ hp, hl, hc.same e⟩
theorem hide_out {H : Hp} {T p : Addr} {o : HO} (h : hide H T p = some o) : p ≠ T ∧ H p = some o := by
  unfold hide at h
  split at h
  · cases h
  · next q => exact ⟨q, h⟩
/-- all that isn't the kept object itself stays: what a clock, a recurrence reach stays -/
theorem ClkAt.keep {cc cr cl ck : Addr} {H H' : Hp} {a p : Addr} {c : Ck} {dk : Addr} {fk : List (Str × V)} (hp : H p = some (.ins ck dk fk)) (ncl : ck ≠ cl) (ncc : ck ≠ cc) (ncr : ck ≠ cr) (k : ∀ b o, b ≠ p → H b = some o → H' b = some o) (h : ClkAt cc cr cl H a c) : ClkAt cc cr cl H' a c := by
  obtain ⟨dx, la, lr, h1, ⟨as, a1, a2, a3⟩, ⟨bs, b1, b2, b3⟩⟩ := h
  refine ⟨dx, la, lr, k _ _ (fun z => ?_) h1, ⟨as, k _ _ (fun z => ?_) a1, a2, fun i x y e1 e2 => ?_⟩, ⟨bs, k _ _ (fun z => ?_) b1, b2, fun i x y e1 e2 => ?_⟩⟩
  · rw [z, hp] at h1
    injection h1 with h1
    injection h1 with h1
    exact ncl h1
  · rw [z, hp] at a1
    cases a1
  · obtain ⟨dy, hy⟩ := a3 i x y e1 e2
    refine ⟨dy, k _ _ (fun z => ?_) hy⟩
    rw [z, hp] at hy
    injection hy with hy
    injection hy with hy
    exact ncc hy
  · rw [z, hp] at b1
    cases b1
  · obtain ⟨dy, hy⟩ := b3 i x y e1 e2
    refine ⟨dy, k _ _ (fun z => ?_) hy⟩
    rw [z, hp] at hy
    injection hy with hy
    injection hy with hy
    exact ncr hy
theorem RcvAt.keep {ck cR : Addr} {H H' : Hp} {p : Addr} {v : V} {R : Option Tm.Recur} {dk : Addr} {fk : List (Str × V)} (hp : H p = some (.ins ck dk fk)) (ncR : ck ≠ cR) (k : ∀ b o, b ≠ p → H b = some o → H' b = some o) (h : RcvAt cR H v R) : RcvAt cR H' v R := by
  cases R with
  | none => exact h
  | some R =>
    obtain ⟨b, r, e1, e2, ok, dx, lm, lo, tb, h1, h2, h3, kvs, h4, h5⟩ := h
    refine ⟨b, r, e1, e2, ok, dx, lm, lo, tb, k _ _ (fun z => ?_) h1, k _ _ (fun z => ?_) h2, k _ _ (fun z => ?_) h3, kvs, k _ _ (fun z => ?_) h4, fun q len wd a1 a2 a3 a4 => ?_⟩
    · rw [z, hp] at h1
      injection h1 with h1
      injection h1 with h1
      exact ncR h1
    · rw [z, hp] at h2
      cases h2
    · rw [z, hp] at h3
      cases h3
    · rw [z, hp] at h4
      cases h4
    · obtain ⟨l, e1, e2⟩ := h5 q len wd a1 a2 a3 a4
      refine ⟨l, e1, k _ _ (fun z => ?_) e2⟩
      rw [z, hp] at e2
      cases e2
abbrev s_answer_call : Stmt := topS 99
theorem sc_answer_call : FnScope ["kept", "call", "numbers"] ["kept", "call", "numbers"] (defScope s_answer_call) := ⟨rfl, rfl, rfl, by decide +kernel, rfl, by decide +kernel, by decide +kernel⟩
/-- the classes are not one another -/
structure Apt (cc cr cl ck cR : Addr) : Prop where
  l : ck ≠ cl
  c : ck ≠ cc
  u : ck ≠ cr
  r : ck ≠ cR
theorem ok_answer_call (B : Blt K mg tbl) (N : Apt C_Change C_Rule C_Clock C_Kept C_Recurrence) (T : Txd K mg "answer_call" s_answer_call) (D_answer_day : Df P w K mg base "answer_day" ["y", "m", "d"] 5 (sp_answer_day)) (D_answer_date : Df P w K mg base "answer_date" ["n"] 4 (sp_answer_date)) (D_answer_setclock : Df P w K mg base "answer_setclock" ["kept", "numbers"] 5 (sp_answer_setclock K C_Change C_Rule C_Clock C_Kept)) (D_answer_offset : Df P w K mg base "answer_offset" ["kept", "t"] 8 (sp_answer_offset C_Change C_Rule C_Clock C_Kept)) (D_answer_read : Df P w K mg base "answer_read" ["kept", "t"] 8 (sp_answer_read C_Change C_Rule C_Clock C_Kept)) (D_answer_when : Df P w K mg base "answer_when" ["kept", "numbers"] 9 (sp_answer_when K C_Change C_Rule C_Clock C_Kept)) (D_answer_add : Df P w K mg base "answer_add" ["n", "months", "days", "how"] 7 (sp_answer_add)) (D_answer_far : Df P w K mg base "answer_far" ["a", "b"] 7 (sp_answer_far)) (D_answer_setrecur : Df P w K mg base "answer_setrecur" ["kept", "numbers"] 8 (sp_answer_setrecur K C_Kept C_Recurrence)) (D_answer_isone : Df P w K mg base "answer_isone" ["kept", "n"] 8 (sp_answer_isone C_Kept C_Recurrence)) (D_answer_count : Df P w K mg base "answer_count" ["kept", "a", "b"] 7 (sp_answer_count C_Kept C_Recurrence)) (D_answer_nth : Df P w K mg base "answer_nth" ["kept", "a", "k"] 8 (sp_answer_nth C_Kept C_Recurrence)) : Df P w K mg base "answer_call" ["kept", "call", "numbers"] 10 (sp_answer_call K C_Change C_Rule C_Clock C_Kept C_Recurrence) := by
  obtain ⟨f, fd, F, hm⟩ := T.ex
  refine ⟨f, fd, F.ok sc_answer_call (fun vs H Q E h => ?_) (fun cdv A outer s H vs Q E hr h => ⟨_, (pss_cons (ps_if (pt_cmpR op_eq (pv 1) pe_int (nomark _))
     (pss_one (ps_ret (pe_callD D_answer_day hr (by decide) (by rfl) (pa_cons (pe_ix ix_list (pv 2) pe_int (fun _ _ => rfl)) (pa_cons (pe_ix ix_list (pv 2) pe_int (fun _ _ => rfl)) (pa_cons (pe_ix ix_list (pv 2) pe_int (fun _ _ => rfl)) pa_nil))))))
     pss_nil)
    (pss_cons (ps_if (pt_cmpR op_eq (pv 1) pe_int (nomark _))
     (pss_one (ps_ret (pe_callD D_answer_date hr (by decide) (by rfl) (pa_cons (pe_ix ix_list (pv 2) pe_int (fun _ _ => rfl)) pa_nil))))
     pss_nil)
    (pss_cons (ps_if (pt_cmpR op_eq (pv 1) pe_int (nomark _))
     (pss_one (ps_ret (pe_callD D_answer_setclock hr (by decide) (by rfl) (pa_cons (pv 0) (pa_cons (pv 2) pa_nil)))))
     pss_nil)
    (pss_cons (ps_if (pt_cmpR op_eq (pv 1) pe_int (nomark _))
     (pss_one (ps_ret (pe_callD D_answer_offset hr (by decide) (by rfl) (pa_cons (pv 0) (pa_cons (pe_ix ix_list (pv 2) pe_int (fun _ _ => rfl)) pa_nil)))))
     pss_nil)
    (pss_cons (ps_if (pt_cmpR op_eq (pv 1) pe_int (nomark _))
     (pss_one (ps_ret (pe_callD D_answer_read hr (by decide) (by rfl) (pa_cons (pv 0) (pa_cons (pe_ix ix_list (pv 2) pe_int (fun _ _ => rfl)) pa_nil)))))
     pss_nil)
    (pss_cons (ps_if (pt_cmpR op_eq (pv 1) pe_int (nomark _))
     (pss_one (ps_ret (pe_callD D_answer_when hr (by decide) (by rfl) (pa_cons (pv 0) (pa_cons (pv 2) pa_nil)))))
     pss_nil)
    (pss_cons (ps_if (pt_cmpR op_eq (pv 1) pe_int (nomark _))
     (pss_one (ps_ret (pe_callD D_answer_add hr (by decide) (by rfl) (pa_cons (pe_ix ix_list (pv 2) pe_int (fun _ _ => rfl)) (pa_cons (pe_ix ix_list (pv 2) pe_int (fun _ _ => rfl)) (pa_cons (pe_ix ix_list (pv 2) pe_int (fun _ _ => rfl)) (pa_cons (pe_ix ix_list (pv 2) pe_int (fun _ _ => rfl)) pa_nil)))))))
     pss_nil)
    (pss_cons (ps_if (pt_cmpR op_eq (pv 1) pe_int (nomark _))
     (pss_one (ps_ret (pe_callD D_answer_far hr (by decide) (by rfl) (pa_cons (pe_ix ix_list (pv 2) pe_int (fun _ _ => rfl)) (pa_cons (pe_ix ix_list (pv 2) pe_int (fun _ _ => rfl)) pa_nil)))))
     pss_nil)
    (pss_cons (ps_if (pt_cmpR op_eq (pv 1) pe_int (nomark _))
     (pss_one (ps_ret (pe_callD D_answer_setrecur hr (by decide) (by rfl) (pa_cons (pv 0) (pa_cons (pv 2) pa_nil)))))
     pss_nil)
    (pss_cons (ps_if (pt_cmpR op_eq (pv 1) pe_int (nomark _))
     (pss_one (ps_ret (pe_callD D_answer_isone hr (by decide) (by rfl) (pa_cons (pv 0) (pa_cons (pe_ix ix_list (pv 2) pe_int (fun _ _ => rfl)) pa_nil)))))
     pss_nil)
    (pss_cons (ps_if (pt_cmpR op_eq (pv 1) pe_int (nomark _))
     (pss_one (ps_ret (pe_callD D_answer_count hr (by decide) (by rfl) (pa_cons (pv 0) (pa_cons (pe_ix ix_list (pv 2) pe_int (fun _ _ => rfl)) (pa_cons (pe_ix ix_list (pv 2) pe_int (fun _ _ => rfl)) pa_nil))))))
     pss_nil)
    (pss_cons (ps_if (pt_cmpR op_eq (pv 1) pe_int (nomark _))
     (pss_one (ps_ret (pe_callD D_answer_nth hr (by decide) (by rfl) (pa_cons (pv 0) (pa_cons (pe_ix ix_list (pv 2) pe_int (fun _ _ => rfl)) (pa_cons (pe_ix ix_list (pv 2) pe_int (fun _ _ => rfl)) pa_nil))))))
     pss_nil)
    (pss_one ps_never))))))))))))), ?_⟩), hm, F.kp, F.binds fun _ _ _ _ _ _ us hl => match us, hl with | [_, _, _], _ => rfl⟩
  · obtain ⟨p, a, T, oT, s, pl, ns, rfl, _⟩ := h
    rfl
  · obtain ⟨p, a, T, oT, s, pl, ns, rfl, hT, st, hs, hl, ask, h⟩ := h
    obtain ⟨x, wh, ec⟩ := which_of ask
    rw [step_which ec] at h
    have st0 := st
    obtain ⟨c, ecl, ok, dk, ac, vr, kp, clk, rcv⟩ := st
    have kep : KepAt C_Change C_Rule C_Clock C_Kept (hide H T) p c := ⟨dk, ac, [("recurrence", vr)], kp, (by show 1 ≤ 10; decide), clk⟩
    have kepH := kep.same hide_sub
    have kr : KrAt C_Kept C_Recurrence H p s.recur := ⟨dk, ac, vr, hide_sub _ _ kp, rcv.same hide_sub⟩
    -- a call that leaves the object as it is
    have leave : ∀ l : List Int, TmNeutral.told (Tm.step s x).2 = l → (Tm.step s x).1 = s → giveL H Q l := by
      intro l el es q H' s' nq hq
      refine h q H' nq ?_ ?_ (Same.frm s')
      · rw [el]
        exact hq
      · rw [es]
        exact st0.same (hide_mono s')
    cases wh with
    | day y m d =>
      refine ⟨_, rfl, rfl, _, rfl, ifT (by decide) ?_⟩
      refine ⟨_, rfl, a, _, _, _, rfl, rfl, hs, rfl, _, rfl, a, _, _, _, rfl, rfl, hs, rfl, _, rfl, a, _, _, _, rfl, rfl, hs, rfl, y, m, d, rfl, leave _ (told_day s y m d) rfl⟩
    | date n =>
      refine ⟨_, rfl, rfl, _, rfl, ifF (by decide) ?_⟩
      refine ⟨_, rfl, rfl, _, rfl, ifT (by decide) ?_⟩
      refine ⟨_, rfl, a, _, _, _, rfl, rfl, hs, rfl, n, rfl, leave _ (told_date s n) rfl⟩
    | setclock =>
      refine ⟨_, rfl, rfl, _, rfl, ifF (by decide) ?_⟩
      refine ⟨_, rfl, rfl, _, rfl, ifF (by decide) ?_⟩
      refine ⟨_, rfl, rfl, _, rfl, ifT (by decide) ?_⟩
      refine ⟨_, rfl, _, rfl, p, a, ns, c, rfl, kepH, hs, by omega, fun e => ?_, fun c' e ok' q H' nq hq sc => ?_⟩
      · refine leave _ ?_ ?_
        · rw [told_set_none e]
          rfl
        · rw [told_set_none e]
      · refine h q H' nq ?_ ?_ ?_
        · rw [told_set_some e]
          exact hq
        · rw [told_set_some e]
          obtain ⟨npT, hp⟩ := hide_out kp
          obtain ⟨a', hp', hc'⟩ := sc.1 dk ac [("recurrence", vr)] hp
          refine ⟨c', rfl, ok', dk, a', vr, by rw [hide_ne npT]; exact hp', hc'.same (fresh_hide hT), ?_⟩
          exact rcv.keep kp N.r fun b o nb eb => by
            obtain ⟨nbT, eb⟩ := hide_out eb
            rw [hide_ne nbT]
            exact sc.2 b o nb eb
        · exact sc.2
    | offset t =>
      refine ⟨_, rfl, rfl, _, rfl, ifF (by decide) ?_⟩
      refine ⟨_, rfl, rfl, _, rfl, ifF (by decide) ?_⟩
      refine ⟨_, rfl, rfl, _, rfl, ifF (by decide) ?_⟩
      refine ⟨_, rfl, rfl, _, rfl, ifT (by decide) ?_⟩
      refine ⟨_, rfl, _, rfl, a, _, _, _, rfl, rfl, hs, rfl, p, c, t, rfl, kepH, ok, leave _ (ecl ▸ told_offset s t) rfl⟩
    | read t =>
      refine ⟨_, rfl, rfl, _, rfl, ifF (by decide) ?_⟩
      refine ⟨_, rfl, rfl, _, rfl, ifF (by decide) ?_⟩
      refine ⟨_, rfl, rfl, _, rfl, ifF (by decide) ?_⟩
      refine ⟨_, rfl, rfl, _, rfl, ifF (by decide) ?_⟩
      refine ⟨_, rfl, rfl, _, rfl, ifT (by decide) ?_⟩
      refine ⟨_, rfl, _, rfl, a, _, _, _, rfl, rfl, hs, rfl, p, c, t, rfl, kepH, ok, leave _ (ecl ▸ told_read s t) rfl⟩
    | when_ y m d hh mi se =>
      refine ⟨_, rfl, rfl, _, rfl, ifF (by decide) ?_⟩
      refine ⟨_, rfl, rfl, _, rfl, ifF (by decide) ?_⟩
      refine ⟨_, rfl, rfl, _, rfl, ifF (by decide) ?_⟩
      refine ⟨_, rfl, rfl, _, rfl, ifF (by decide) ?_⟩
      refine ⟨_, rfl, rfl, _, rfl, ifF (by decide) ?_⟩
      refine ⟨_, rfl, rfl, _, rfl, ifT (by decide) ?_⟩
      refine ⟨_, rfl, _, rfl, p, a, c, y, m, d, hh, mi, se, rfl, kepH, ok, hs, leave _ (ecl ▸ told_when s y m d hh mi se) rfl⟩
    | add n m d hw =>
      refine ⟨_, rfl, rfl, _, rfl, ifF (by decide) ?_⟩
      refine ⟨_, rfl, rfl, _, rfl, ifF (by decide) ?_⟩
      refine ⟨_, rfl, rfl, _, rfl, ifF (by decide) ?_⟩
      refine ⟨_, rfl, rfl, _, rfl, ifF (by decide) ?_⟩
      refine ⟨_, rfl, rfl, _, rfl, ifF (by decide) ?_⟩
      refine ⟨_, rfl, rfl, _, rfl, ifF (by decide) ?_⟩
      refine ⟨_, rfl, rfl, _, rfl, ifT (by decide) ?_⟩
      refine ⟨_, rfl, a, _, _, _, rfl, rfl, hs, rfl, _, rfl, a, _, _, _, rfl, rfl, hs, rfl, _, rfl, a, _, _, _, rfl, rfl, hs, rfl, _, rfl, a, _, _, _, rfl, rfl, hs, rfl, n, m, d, hw, rfl, leave _ (told_add s n m d hw) rfl⟩
    | far x y =>
      refine ⟨_, rfl, rfl, _, rfl, ifF (by decide) ?_⟩
      refine ⟨_, rfl, rfl, _, rfl, ifF (by decide) ?_⟩
      refine ⟨_, rfl, rfl, _, rfl, ifF (by decide) ?_⟩
      refine ⟨_, rfl, rfl, _, rfl, ifF (by decide) ?_⟩
      refine ⟨_, rfl, rfl, _, rfl, ifF (by decide) ?_⟩
      refine ⟨_, rfl, rfl, _, rfl, ifF (by decide) ?_⟩
      refine ⟨_, rfl, rfl, _, rfl, ifF (by decide) ?_⟩
      refine ⟨_, rfl, rfl, _, rfl, ifT (by decide) ?_⟩
      refine ⟨_, rfl, a, _, _, _, rfl, rfl, hs, rfl, _, rfl, a, _, _, _, rfl, rfl, hs, rfl, x, y, rfl, leave _ (told_far s x y) rfl⟩
    | setrecur =>
      refine ⟨_, rfl, rfl, _, rfl, ifF (by decide) ?_⟩
      refine ⟨_, rfl, rfl, _, rfl, ifF (by decide) ?_⟩
      refine ⟨_, rfl, rfl, _, rfl, ifF (by decide) ?_⟩
      refine ⟨_, rfl, rfl, _, rfl, ifF (by decide) ?_⟩
      refine ⟨_, rfl, rfl, _, rfl, ifF (by decide) ?_⟩
      refine ⟨_, rfl, rfl, _, rfl, ifF (by decide) ?_⟩
      refine ⟨_, rfl, rfl, _, rfl, ifF (by decide) ?_⟩
      refine ⟨_, rfl, rfl, _, rfl, ifF (by decide) ?_⟩
      refine ⟨_, rfl, rfl, _, rfl, ifT (by decide) ?_⟩
      refine ⟨_, rfl, _, rfl, p, a, ns, s.recur, rfl, kr, hs, by omega, fun e => ?_, fun r e ok' q H' nq hq sc => ?_⟩
      · refine leave _ ?_ ?_
        · rw [told_recur_none e]
          rfl
        · rw [told_recur_none e]
      · refine h q H' nq ?_ ?_ ?_
        · rw [told_recur_some e]
          exact hq
        · rw [told_recur_some e]
          obtain ⟨npT, hp⟩ := hide_out kp
          obtain ⟨b, hp', hr'⟩ := sc.1 dk ac vr hp
          refine ⟨c, ecl, ok, dk, ac, .ref b, by rw [hide_ne npT]; exact hp', ?_, b, r, rfl, rfl, ok', hr'.same (fresh_hide hT)⟩
          exact clk.keep kp N.l N.c N.u fun b o nb eb => by
            obtain ⟨nbT, eb⟩ := hide_out eb
            rw [hide_ne nbT]
            exact sc.2 b o nb eb
        · exact sc.2
    | isone n =>
      refine ⟨_, rfl, rfl, _, rfl, ifF (by decide) ?_⟩
      refine ⟨_, rfl, rfl, _, rfl, ifF (by decide) ?_⟩
      refine ⟨_, rfl, rfl, _, rfl, ifF (by decide) ?_⟩
      refine ⟨_, rfl, rfl, _, rfl, ifF (by decide) ?_⟩
      refine ⟨_, rfl, rfl, _, rfl, ifF (by decide) ?_⟩
      refine ⟨_, rfl, rfl, _, rfl, ifF (by decide) ?_⟩
      refine ⟨_, rfl, rfl, _, rfl, ifF (by decide) ?_⟩
      refine ⟨_, rfl, rfl, _, rfl, ifF (by decide) ?_⟩
      refine ⟨_, rfl, rfl, _, rfl, ifF (by decide) ?_⟩
      refine ⟨_, rfl, rfl, _, rfl, ifT (by decide) ?_⟩
      refine ⟨_, rfl, _, rfl, a, _, _, _, rfl, rfl, hs, rfl, p, s.recur, n, rfl, kr, leave _ (told_isone s n) rfl⟩
    | count x y =>
      refine ⟨_, rfl, rfl, _, rfl, ifF (by decide) ?_⟩
      refine ⟨_, rfl, rfl, _, rfl, ifF (by decide) ?_⟩
      refine ⟨_, rfl, rfl, _, rfl, ifF (by decide) ?_⟩
      refine ⟨_, rfl, rfl, _, rfl, ifF (by decide) ?_⟩
      refine ⟨_, rfl, rfl, _, rfl, ifF (by decide) ?_⟩
      refine ⟨_, rfl, rfl, _, rfl, ifF (by decide) ?_⟩
      refine ⟨_, rfl, rfl, _, rfl, ifF (by decide) ?_⟩
      refine ⟨_, rfl, rfl, _, rfl, ifF (by decide) ?_⟩
      refine ⟨_, rfl, rfl, _, rfl, ifF (by decide) ?_⟩
      refine ⟨_, rfl, rfl, _, rfl, ifF (by decide) ?_⟩
      refine ⟨_, rfl, rfl, _, rfl, ifT (by decide) ?_⟩
      refine ⟨_, rfl, _, rfl, a, _, _, _, rfl, rfl, hs, rfl, _, rfl, a, _, _, _, rfl, rfl, hs, rfl, p, s.recur, x, y, rfl, kr, leave _ (told_count s x y) rfl⟩
    | nth x k =>
      refine ⟨_, rfl, rfl, _, rfl, ifF (by decide) ?_⟩
      refine ⟨_, rfl, rfl, _, rfl, ifF (by decide) ?_⟩
      refine ⟨_, rfl, rfl, _, rfl, ifF (by decide) ?_⟩
      refine ⟨_, rfl, rfl, _, rfl, ifF (by decide) ?_⟩
      refine ⟨_, rfl, rfl, _, rfl, ifF (by decide) ?_⟩
      refine ⟨_, rfl, rfl, _, rfl, ifF (by decide) ?_⟩
      refine ⟨_, rfl, rfl, _, rfl, ifF (by decide) ?_⟩
      refine ⟨_, rfl, rfl, _, rfl, ifF (by decide) ?_⟩
      refine ⟨_, rfl, rfl, _, rfl, ifF (by decide) ?_⟩
      refine ⟨_, rfl, rfl, _, rfl, ifF (by decide) ?_⟩
      refine ⟨_, rfl, rfl, _, rfl, ifF (by decide) ?_⟩
      refine ⟨_, rfl, rfl, _, rfl, ifT (by decide) ?_⟩
      refine ⟨_, rfl, _, rfl, a, _, _, _, rfl, rfl, hs, rfl, _, rfl, a, _, _, _, rfl, rfl, hs, rfl, p, s.recur, x, k, rfl, kr, leave _ (told_nth s x k) rfl⟩
end
end Cc
set_option Elab.async false
set_option maxRecDepth 100000
set_option maxHeartbeats 2000000
set_option linter.unusedSimpArgs false
set_option linter.unusedVariables false
namespace Cc
open PySem PySem.Spec PyProof.Rows L2
section
variable {P : Program} {w : World} {K : PySem.W.Frag} {mg : Str → Option Value} {base : Heap} {tbl C_Change C_Rule C_Clock C_Kept C_Recurrence : Addr}
def ck0 : Ck := ⟨0, [], []⟩
theorem ck0_ok : ck0.Ok := ⟨Nat.zero_le _, rfl, .inl rfl⟩
abbrev s_Kept : Stmt := inClass (topS 86) 0
theorem sc_Kept : FnScope ["self"] ["self"] (defScope s_Kept) := ⟨rfl, rfl, rfl, by decide +kernel, rfl, by decide +kernel, by decide +kernel⟩
theorem ok_Kept (B : Blt K mg tbl) (Y : Kez K C_Kept) (Y2 : NoAttr K C_Kept "recurrence") (T : Txc K mg "Kept" C_Kept "Kept.__init__" s_Kept) (M_Clock : Dc P w K mg base "Clock" C_Clock ["self", "first", "changes", "rules"] 1 (sp_Clock C_Clock)) : Dc P w K mg base "Kept" C_Kept ["self"] 3 (sp_Kept C_Change C_Rule C_Clock C_Kept C_Recurrence) := by
  obtain ⟨f, fd, F, M, hm⟩ := T.ex
  refine ⟨f, fd, F.ok sc_Kept (fun vs H Q E h => ?_) (fun cdv A outer s H vs Q E hr h => ⟨_, (pss_cons (ps_fld (pv 0) (pe_makeD M_Clock hr (by decide) (by rfl) (pa_cons pe_int (pa_cons (pe_lst pa_nil) (pa_cons (pe_lst pa_nil) pa_nil)))) rfl)
    (pss_one (ps_fld (pv 0) pe_non rfl))), ?_⟩), M, hm, F.binds fun _ _ _ _ _ _ us hl => match us, hl with | [_], _ => rfl⟩
  · obtain ⟨p, dx, rfl, _⟩ := h
    rfl
  · obtain ⟨p, dx, rfl, hp, h⟩ := h
    refine ⟨small_le (by show 0 ≤ 5000; decide), fun la hla => ⟨small_le (by show 0 ≤ 5000; decide), fun lr hlr => ?_⟩⟩
    have s1 : Same H (upd H la (.lst [])) := Same.new hla
    have s2 : Same (upd H la (.lst [])) (upd (upd H la (.lst [])) lr (.lst [])) := Same.new hlr
    have ha2 := s2 la _ upd_same
    have hr2 : upd (upd H la (.lst [])) lr (.lst []) lr = some (.lst []) := upd_same
    generalize upd (upd H la (.lst [])) lr (.lst []) = H2 at *
    dsimp only [tNil, sp_Clock]
    refine madeA (C := C_Clock) (ok := fun us fs => ∃ (f : Int) (la lr : Addr), us = [.int f, .ref la, .ref lr] ∧ fs = ckF f la lr) (us := [.int 0, .ref la, .ref lr]) ⟨0, la, lr, rfl, rfl⟩ fun x dy H3 s3 nx hx => ?_
    have S := s1.trans (s2.trans s3)
    have nxp : x ≠ p := fun z => by rw [z, (s1.trans s2) _ _ hp] at nx; cases nx
    refine ⟨_, rfl, p, _, dx, _, rfl, S _ _ hp, Y.cl, Y.c1, by decide, ?_⟩
    have e : putF "clock" (.ref x) [] = keF x [] := rfl
    rw [e]
    refine ⟨_, rfl, p, _, dx, _, rfl, upd_same, Y.cl, Y2, (by show 1 < 1000; decide), ?_⟩
    rw [upd_upd, show putF ("recurrence" : Str) V.non (keF x []) = keR x .non from rfl]
    have ka := s3 _ _ ha2
    have kr := s3 _ _ hr2
    have npa : la ≠ p := fun z => by rw [z, hp] at hla; cases hla
    have npr : lr ≠ p := fun z => by rw [z, s1 _ _ hp] at hlr; cases hlr
    refine h _ ⟨ck0, rfl, ck0_ok, dx, x, .non, upd_same, ⟨dy, la, lr, by rw [upd_ne nxp]; exact hx, ⟨[], by rw [upd_ne npa]; exact ka, rfl, fun i a y e => by cases e⟩, ⟨[], by rw [upd_ne npr]; exact kr, rfl, fun i a y e => by cases e⟩⟩, rfl⟩ fun b o nb eb => ?_
    rw [upd_ne nb]
    exact S _ _ eb
end
end Cc
set_option Elab.async false
set_option maxRecDepth 100000
set_option maxHeartbeats 2000000
namespace Cc
open PySem PySem.Spec PyProof.Rows L2
/-! ## What the top has written -/
section
variable {K : PySem.W.Frag} {h : Heap} {mg : Str → Option Value}
theorem txd_mk {x : Str} {st : Stmt} {f : Addr} {od an : Option Addr} {sl : Array (Option Value)} {oc kV dc pm cd ct : Value} (X : K.In h) (G : h.Ns mainGlobals mg) (a : PySem.W.nsIn K mainGlobals x = some (some (.ref f)))
    (l : K.lookup f = some ⟨oc, od, .func (PySem.W.fnOf x x (defArgs st) (defBody st) (defScope st) .none kV dc pm an cd ct), sl⟩) (c : PySem.W.codeIn K cd x = true) (k : PySem.W.keepIn K (.ref f) = true) : Txd K mg x st :=
  ⟨f, _, fun_mk l c k, PySem.W.mg_of X G a⟩
theorem txc_mk {x q : Str} {st : Stmt} {C f : Addr} {od an : Option Addr} {sl : Array (Option Value)} {oc kV dc pm cd ct : Value} (X : K.In h) (G : h.Ns mainGlobals mg) (aC : PySem.W.nsIn K mainGlobals x = some (some (.ref C))) (a : PySem.W.findIn K (.ref C) "__init__" = some (some (.ref f))) (i : PySem.W.isFn K (.ref f) = true)
    (l : K.lookup f = some ⟨oc, od, .func (PySem.W.fnOf "__init__" q (defArgs st) (defBody st) (defScope st) .none kV dc pm an cd ct), sl⟩) (c : PySem.W.codeIn K cd q = true) (k : PySem.W.keepIn K (.ref f) = true) (mk : PySem.W.makesIn K C = true) (kc : PySem.W.keepIn K (.ref C) = true) : Txc K mg x C q st :=
  ⟨f, _, fun_mk l c k, ⟨mk, a, i, kc⟩, PySem.W.mg_of X G aC⟩
theorem cst_mk {x : Str} {n : Int} {t : Tok} (X : K.In h) (G : h.Ns mainGlobals mg) (a : PySem.W.nsIn K mainGlobals x = some (some (.int n t))) : Cst mg x (.int n) := ⟨_, PySem.W.mg_of X G a, t, rfl⟩
theorem cls_mk {C : Addr} (pg : PySem.W.plainGet K C Str.empty = true) (hd : PySem.W.hasDictIn K C = true) (po : PySem.W.plainOver K C = true) (sa : PySem.W.findIn K (.ref C) "__setattr__" = some (some (.builtin "object.__setattr__"))) : Cls K C := ⟨pg, hd, po, sa⟩
theorem na_mk {C : Addr} {f : Str} (e : PySem.W.findIn K (.ref C) f = some none) : NoAttr K C f := e
theorem tup_mk {tbl : Addr} {ns : List Int} {od : Option Addr} {sl : Array (Option Value)} {its : Array Value} {n : Nat} (l : K.lookup tbl = some ⟨.type "tuple", od, .seq its n, sl⟩) (z : its.size ≤ sizeLine) (v : Vals (ns.map V.int) its.toList) (H : Hp) : SqT K H tbl (ns.map V.int) := .inr ⟨_, its, n, l, rfl, rfl, z, v⟩
end
end Cc
set_option Elab.async false
set_option maxRecDepth 100000
set_option maxHeartbeats 2000000
set_option linter.unusedSimpArgs false
set_option linter.unusedVariables false
namespace Cc
open PySem PySem.Spec PyProof.Rows L2
section
theorem all_mk {P : Program} {w : World} {K : PySem.W.Frag} {h : Heap} {mg : Str → Option Value} {fa tbl C_Change C_Rule C_Clock C_Recurrence C_Kept : Addr} (X : K.In h) (G : h.Ns mainGlobals mg) (hfa : mg "answers" = some (.ref fa))
    (B : Blt K mg tbl) (Z : Clz K C_Change C_Rule C_Clock) (Y : Kez K C_Kept) (Y2 : NoAttr K C_Kept "recurrence") (R : Rez K C_Recurrence) (Ap : Apt C_Change C_Rule C_Clock C_Kept C_Recurrence)
    (T_Change : Txc K mg "Change" C_Change "Change.__init__" s_Change)
    (T_Rule : Txc K mg "Rule" C_Rule "Rule.__init__" s_Rule)
    (T_Clock : Txc K mg "Clock" C_Clock "Clock.__init__" s_Clock)
    (T_Recurrence : Txc K mg "Recurrence" C_Recurrence "Recurrence.__init__" s_Recurrence)
    (T_Kept : Txc K mg "Kept" C_Kept "Kept.__init__" s_Kept)
    (T_is_leap : Txd K mg "is_leap" s_is_leap)
    (T_days_before_month : Txd K mg "days_before_month" s_days_before_month)
    (T_month_length : Txd K mg "month_length" s_month_length)
    (T_is_date : Txd K mg "is_date" s_is_date)
    (T_first_of_year : Txd K mg "first_of_year" s_first_of_year)
    (T_day_number : Txd K mg "day_number" s_day_number)
    (T_is_day : Txd K mg "is_day" s_is_day)
    (T_year_of : Txd K mg "year_of" s_year_of)
    (T_date_of : Txd K mg "date_of" s_date_of)
    (T_month_number : Txd K mg "month_number" s_month_number)
    (T_is_month : Txd K mg "is_month" s_is_month)
    (T_month_first : Txd K mg "month_first" s_month_first)
    (T_weekday_of : Txd K mg "weekday_of" s_weekday_of)
    (T_week_of : Txd K mg "week_of" s_week_of)
    (T_nth_weekday : Txd K mg "nth_weekday" s_nth_weekday)
    (T_is_moment : Txd K mg "is_moment" s_is_moment)
    (T_clock_from : Txd K mg "clock_from" s_clock_from)
    (T_rule_from : Txd K mg "rule_from" s_rule_from)
    (T_is_offset : Txd K mg "is_offset" s_is_offset)
    (T_are_changes : Txd K mg "are_changes" s_are_changes)
    (T_are_rules : Txd K mg "are_rules" s_are_rules)
    (T_is_rule : Txd K mg "is_rule" s_is_rule)
    (T_ever_meet : Txd K mg "ever_meet" s_ever_meet)
    (T_rule_moment : Txd K mg "rule_moment" s_rule_moment)
    (T_latest_moment : Txd K mg "latest_moment" s_latest_moment)
    (T_offset_at : Txd K mg "offset_at" s_offset_at)
    (T_offsets_of : Txd K mg "offsets_of" s_offsets_of)
    (T_moments_of : Txd K mg "moments_of" s_moments_of)
    (T_recurrence_from : Txd K mg "recurrence_from" s_recurrence_from)
    (T_lists_from : Txd K mg "lists_from" s_lists_from)
    (T_are_ahead : Txd K mg "are_ahead" s_are_ahead)
    (T_are_days : Txd K mg "are_days" s_are_days)
    (T_are_months : Txd K mg "are_months" s_are_months)
    (T_are_pairs : Txd K mg "are_pairs" s_are_pairs)
    (T_rise_within : Txd K mg "rise_within" s_rise_within)
    (T_rise : Txd K mg "rise" s_rise)
    (T_origins_of : Txd K mg "origins_of" s_origins_of)
    (T_table_of : Txd K mg "table_of" s_table_of)
    (T_told_of_month : Txd K mg "told_of_month" s_told_of_month)
    (T_day_of_pair : Txd K mg "day_of_pair" s_day_of_pair)
    (T_count_between : Txd K mg "count_between" s_count_between)
    (T_count_in_month : Txd K mg "count_in_month" s_count_in_month)
    (T_has_month : Txd K mg "has_month" s_has_month)
    (T_count_by_turns : Txd K mg "count_by_turns" s_count_by_turns)
    (T_is_one : Txd K mg "is_one" s_is_one)
    (T_nth_between : Txd K mg "nth_between" s_nth_between)
    (T_nth_in_month : Txd K mg "nth_in_month" s_nth_in_month)
    (T_is_span : Txd K mg "is_span" s_is_span)
    (T_add_months : Txd K mg "add_months" s_add_months)
    (T_add_span : Txd K mg "add_span" s_add_span)
    (T_span_between : Txd K mg "span_between" s_span_between)
    (T_answer_day : Txd K mg "answer_day" s_answer_day)
    (T_answer_date : Txd K mg "answer_date" s_answer_date)
    (T_answer_setclock : Txd K mg "answer_setclock" s_answer_setclock)
    (T_answer_offset : Txd K mg "answer_offset" s_answer_offset)
    (T_answer_read : Txd K mg "answer_read" s_answer_read)
    (T_answer_when : Txd K mg "answer_when" s_answer_when)
    (T_answer_add : Txd K mg "answer_add" s_answer_add)
    (T_answer_far : Txd K mg "answer_far" s_answer_far)
    (T_answer_setrecur : Txd K mg "answer_setrecur" s_answer_setrecur)
    (T_answer_isone : Txd K mg "answer_isone" s_answer_isone)
    (T_answer_count : Txd K mg "answer_count" s_answer_count)
    (T_answer_nth : Txd K mg "answer_nth" s_answer_nth)
    (T_answer_call : Txd K mg "answer_call" s_answer_call)
    (T_answers : Txd K mg "answers" s_answers) :
    ∃ fd : FuncData, (∀ (s : Shared) (us : List Value), us.length = (["calls"] : List Str).length → BindsTo s fd ⟨us, []⟩ ((["calls"] : List Str).zip us)) ∧ ∀ base : Heap, K.In base → base.Ns mainGlobals mg → FnOk P w K mg base CX0 11 fa fd ["calls"] (sp_answers K) := by
  obtain ⟨f, fd, F, hm⟩ := T_answers.ex
  have e := hfa.symm.trans hm
  cases e
  have F0 := F
  have bt : ∀ (s : Shared) (us : List Value), us.length = (["calls"] : List Str).length → BindsTo s fd ⟨us, []⟩ ((["calls"] : List Str).zip us) := by
    obtain ⟨oc, od, kV, doc, pm, an, cdv, ct, osl, rfl, lk, hcd⟩ := F.ex
    exact fun s us hu => match us, hu with | [_], _ => .of_eq rfl
  refine ⟨fd, bt, fun base _ _ => ?_⟩
  have M_Change : Dc P w K mg base "Change" C_Change ["self", "moment", "offset"] 1 (sp_Change C_Change) := ok_Change B Z T_Change 
  have M_Rule : Dc P w K mg base "Rule" C_Rule ["self", "month", "k", "weekday", "second", "offset"] 1 (sp_Rule C_Rule) := ok_Rule B Z T_Rule 
  have M_Clock : Dc P w K mg base "Clock" C_Clock ["self", "first", "changes", "rules"] 1 (sp_Clock C_Clock) := ok_Clock B Z T_Clock 
  have D_year_of : Df P w K mg base "year_of" ["n"] 1 (sp_year_of) := ok_year_of B T_year_of 
  have D_first_of_year : Df P w K mg base "first_of_year" ["y"] 1 (sp_first_of_year) := ok_first_of_year B T_first_of_year 
  have D_is_leap : Df P w K mg base "is_leap" ["y"] 1 (sp_is_leap) := ok_is_leap B T_is_leap 
  have D_days_before_month : Df P w K mg base "days_before_month" ["y", "m"] 2 (sp_days_before_month) := ok_days_before_month B T_days_before_month D_is_leap
  have D_date_of : Df P w K mg base "date_of" ["n"] 3 (sp_date_of) := ok_date_of B T_date_of D_year_of D_first_of_year D_days_before_month
  have D_month_number : Df P w K mg base "month_number" ["n"] 4 (sp_month_number) := ok_month_number B T_month_number D_date_of
  have D_weekday_of : Df P w K mg base "weekday_of" ["n"] 1 (sp_weekday_of) := ok_weekday_of B T_weekday_of 
  have D_origins_of : Df P w K mg base "origins_of" ["by", "first", "days"] 2 (sp_origins_of K) := ok_origins_of B T_origins_of D_weekday_of
  have D_day_of_pair : Df P w K mg base "day_of_pair" ["length", "weekday", "k", "w"] 1 (sp_day_of_pair) := ok_day_of_pair B T_day_of_pair 
  have D_told_of_month : Df P w K mg base "told_of_month" ["length", "weekday", "days", "pairs"] 2 (sp_told_of_month K) := ok_told_of_month B T_told_of_month D_day_of_pair
  have D_table_of : Df P w K mg base "table_of" ["by", "days", "pairs"] 3 (sp_table_of K) := ok_table_of B T_table_of D_told_of_month
  have M_Recurrence : Dc P w K mg base "Recurrence" C_Recurrence ["self", "by", "every", "first", "last", "days", "months", "pairs"] 5 (sp_Recurrence K C_Recurrence) := ok_Recurrence B R T_Recurrence D_month_number D_origins_of D_table_of
  have M_Kept : Dc P w K mg base "Kept" C_Kept ["self"] 3 (sp_Kept C_Change C_Rule C_Clock C_Kept C_Recurrence) := ok_Kept B Y Y2 T_Kept M_Clock
  have D_month_length : Df P w K mg base "month_length" ["y", "m"] 3 (sp_month_length) := ok_month_length B T_month_length D_days_before_month
  have D_is_date : Df P w K mg base "is_date" ["y", "m", "d"] 4 (sp_is_date) := ok_is_date B T_is_date D_month_length
  have D_day_number : Df P w K mg base "day_number" ["y", "m", "d"] 3 (sp_day_number) := ok_day_number B T_day_number D_first_of_year D_days_before_month
  have D_is_day : Df P w K mg base "is_day" ["n"] 1 (sp_is_day) := ok_is_day B T_is_day 
  have D_is_month : Df P w K mg base "is_month" ["number"] 1 (sp_is_month) := ok_is_month B T_is_month 
  have D_month_first : Df P w K mg base "month_first" ["number"] 4 (sp_month_first) := ok_month_first B T_month_first D_day_number
  have D_week_of : Df P w K mg base "week_of" ["n"] 2 (sp_week_of) := ok_week_of B T_week_of D_year_of D_weekday_of D_first_of_year
  have D_nth_weekday : Df P w K mg base "nth_weekday" ["y", "m", "k", "w"] 4 (sp_nth_weekday) := ok_nth_weekday B T_nth_weekday D_day_number D_month_length D_weekday_of
  have D_is_moment : Df P w K mg base "is_moment" ["t"] 2 (sp_is_moment) := ok_is_moment B T_is_moment D_is_day
  have D_rule_from : Df P w K mg base "rule_from" ["numbers", "at"] 3 (sp_rule_from K C_Rule) := ok_rule_from B T_rule_from M_Rule
  have D_is_offset : Df P w K mg base "is_offset" ["o"] 1 (sp_is_offset) := ok_is_offset B T_is_offset 
  have D_are_changes : Df P w K mg base "are_changes" ["changes"] 2 (sp_are_changes C_Change) := ok_are_changes B Z T_are_changes D_is_offset
  have D_is_rule : Df P w K mg base "is_rule" ["rule"] 2 (sp_is_rule C_Rule) := ok_is_rule B Z T_is_rule D_is_offset
  have D_ever_meet : Df P w K mg base "ever_meet" ["one", "other"] 1 (sp_ever_meet C_Rule) := ok_ever_meet B Z T_ever_meet 
  have D_are_rules : Df P w K mg base "are_rules" ["rules"] 3 (sp_are_rules C_Rule) := ok_are_rules B Z T_are_rules D_is_rule D_ever_meet
  have D_clock_from : Df P w K mg base "clock_from" ["numbers"] 4 (sp_clock_from K C_Change C_Rule C_Clock) := ok_clock_from B Z T_clock_from M_Clock M_Change D_rule_from D_is_offset D_are_changes D_are_rules
  have D_rule_moment : Df P w K mg base "rule_moment" ["rule", "y"] 5 (sp_rule_moment C_Rule) := ok_rule_moment B Z T_rule_moment D_nth_weekday
  have D_latest_moment : Df P w K mg base "latest_moment" ["rule", "t"] 6 (sp_latest_moment C_Rule) := ok_latest_moment B Z T_latest_moment D_year_of D_rule_moment
  have D_offset_at : Df P w K mg base "offset_at" ["clock", "t"] 7 (sp_offset_at C_Change C_Rule C_Clock) := ok_offset_at B Z T_offset_at D_latest_moment
  have D_offsets_of : Df P w K mg base "offsets_of" ["clock"] 1 (sp_offsets_of C_Change C_Rule C_Clock) := ok_offsets_of B Z T_offsets_of 
  have D_moments_of : Df P w K mg base "moments_of" ["clock", "shown"] 8 (sp_moments_of C_Change C_Rule C_Clock) := ok_moments_of B Z T_moments_of D_offsets_of D_is_moment D_offset_at
  have D_lists_from : Df P w K mg base "lists_from" ["numbers"] 1 (sp_lists_from K) := ok_lists_from B T_lists_from 
  have D_are_ahead : Df P w K mg base "are_ahead" ["numbers"] 2 (sp_are_ahead K) := ok_are_ahead B T_are_ahead D_is_day
  have D_rise : Df P w K mg base "rise" ["values"] 1 (sp_rise K) := ok_rise B T_rise 
  have D_rise_within : Df P w K mg base "rise_within" ["numbers", "least", "most"] 2 (sp_rise_within K) := ok_rise_within B T_rise_within D_rise
  have D_are_days : Df P w K mg base "are_days" ["by", "days"] 3 (sp_are_days K) := ok_are_days B T_are_days D_rise_within
  have D_are_months : Df P w K mg base "are_months" ["months"] 3 (sp_are_months K) := ok_are_months B T_are_months D_rise_within
  have D_are_pairs : Df P w K mg base "are_pairs" ["by", "pairs"] 2 (sp_are_pairs K) := ok_are_pairs B T_are_pairs D_rise
  have D_recurrence_from : Df P w K mg base "recurrence_from" ["numbers"] 7 (sp_recurrence_from K C_Recurrence) := ok_recurrence_from B R T_recurrence_from D_lists_from M_Recurrence D_are_ahead D_are_days D_are_months D_are_pairs
  have D_has_month : Df P w K mg base "has_month" ["recurrence", "month"] 1 (sp_has_month C_Recurrence) := ok_has_month B R T_has_month 
  have D_count_by_turns : Df P w K mg base "count_by_turns" ["recurrence", "low", "high"] 1 (sp_count_by_turns C_Recurrence) := ok_count_by_turns B R T_count_by_turns 
  have D_count_in_month : Df P w K mg base "count_in_month" ["recurrence", "month", "low", "high"] 5 (sp_count_in_month C_Recurrence) := ok_count_in_month B R T_count_in_month D_month_first D_has_month D_count_by_turns D_weekday_of
  have D_count_between : Df P w K mg base "count_between" ["recurrence", "a", "b"] 6 (sp_count_between C_Recurrence) := ok_count_between B R T_count_between D_month_number D_count_in_month
  have D_is_one : Df P w K mg base "is_one" ["recurrence", "n"] 7 (sp_is_one C_Recurrence) := ok_is_one B R T_is_one D_count_between
  have D_nth_in_month : Df P w K mg base "nth_in_month" ["recurrence", "month", "low", "k"] 6 (sp_nth_in_month C_Recurrence) := ok_nth_in_month B R T_nth_in_month D_month_first D_count_in_month
  have D_nth_between : Df P w K mg base "nth_between" ["recurrence", "a", "b", "k"] 7 (sp_nth_between C_Recurrence) := ok_nth_between B R T_nth_between D_month_number D_count_in_month D_nth_in_month
  have D_is_span : Df P w K mg base "is_span" ["months", "days", "how"] 1 (sp_is_span) := ok_is_span B T_is_span 
  have D_add_months : Df P w K mg base "add_months" ["n", "months", "how"] 5 (sp_add_months) := ok_add_months B T_add_months D_month_number D_month_first D_is_month
  have D_add_span : Df P w K mg base "add_span" ["n", "months", "days", "how"] 6 (sp_add_span) := ok_add_span B T_add_span D_add_months D_is_day
  have D_span_between : Df P w K mg base "span_between" ["a", "b"] 6 (sp_span_between) := ok_span_between B T_span_between D_month_number D_add_months
  have D_answer_day : Df P w K mg base "answer_day" ["y", "m", "d"] 5 (sp_answer_day) := ok_answer_day B T_answer_day D_is_date D_day_number
  have D_answer_date : Df P w K mg base "answer_date" ["n"] 4 (sp_answer_date) := ok_answer_date B T_answer_date D_is_day D_week_of D_date_of D_weekday_of
  have D_answer_setclock : Df P w K mg base "answer_setclock" ["kept", "numbers"] 5 (sp_answer_setclock K C_Change C_Rule C_Clock C_Kept) := ok_answer_setclock B Z Y T_answer_setclock D_clock_from
  have D_answer_offset : Df P w K mg base "answer_offset" ["kept", "t"] 8 (sp_answer_offset C_Change C_Rule C_Clock C_Kept) := ok_answer_offset B Z Y T_answer_offset D_is_moment D_offset_at
  have D_answer_read : Df P w K mg base "answer_read" ["kept", "t"] 8 (sp_answer_read C_Change C_Rule C_Clock C_Kept) := ok_answer_read B Z Y T_answer_read D_is_moment D_offset_at D_date_of
  have D_answer_when : Df P w K mg base "answer_when" ["kept", "numbers"] 9 (sp_answer_when K C_Change C_Rule C_Clock C_Kept) := ok_answer_when B Z Y T_answer_when D_moments_of D_is_date D_day_number
  have D_answer_add : Df P w K mg base "answer_add" ["n", "months", "days", "how"] 7 (sp_answer_add) := ok_answer_add B T_answer_add D_add_span D_is_day D_is_span
  have D_answer_far : Df P w K mg base "answer_far" ["a", "b"] 7 (sp_answer_far) := ok_answer_far B T_answer_far D_span_between D_is_day
  have D_answer_setrecur : Df P w K mg base "answer_setrecur" ["kept", "numbers"] 8 (sp_answer_setrecur K C_Kept C_Recurrence) := ok_answer_setrecur B Y Y2 T_answer_setrecur D_recurrence_from
  have D_answer_isone : Df P w K mg base "answer_isone" ["kept", "n"] 8 (sp_answer_isone C_Kept C_Recurrence) := ok_answer_isone B R Y Y2 T_answer_isone D_is_day D_is_one
  have D_answer_count : Df P w K mg base "answer_count" ["kept", "a", "b"] 7 (sp_answer_count C_Kept C_Recurrence) := ok_answer_count B R Y Y2 T_answer_count D_count_between D_is_day
  have D_answer_nth : Df P w K mg base "answer_nth" ["kept", "a", "k"] 8 (sp_answer_nth C_Kept C_Recurrence) := ok_answer_nth B R Y Y2 T_answer_nth D_nth_between D_is_day
  have D_answer_call : Df P w K mg base "answer_call" ["kept", "call", "numbers"] 10 (sp_answer_call K C_Change C_Rule C_Clock C_Kept C_Recurrence) := ok_answer_call B Ap T_answer_call D_answer_day D_answer_date D_answer_setclock D_answer_offset D_answer_read D_answer_when D_answer_add D_answer_far D_answer_setrecur D_answer_isone D_answer_count D_answer_nth
  exact fn_answers B F0 M_Kept D_answer_call
end
end Cc
open PySem PySem.W PyProof.Rows
set_option maxRecDepth 100000 in
set_option maxHeartbeats 16000000 in
theorem PySem.Challenge.cw_calendarclocks_s01_answers_holds : PySem.Challenge.rw_calendarclocks_s01_answers.Holds := by
  w_on; k_headS; (case hw => exact ⟨[.list [.int 1, .int 3, .int 1, .int 1, .int 1, .int 0]], by decide +kernel, by decide +kernel⟩)
  k_fillS
  refine L2.walk_specK (r := PySem.Challenge.rw_calendarclocks_s01_answers) (k := 11) (CX := L2.CX0) (ps := ["calls"]) (sp := Cc.sp_answers) (by decide +kernel) rfl rfl ⟨rfl, by decide, by decide⟩ (fun w h Y => PySem.W.kIn_of Y) ?F ?S (fun _ _ _ _ z => z)
  case F =>
    intro w mg fa h Y KX G hmg
    refine' Cc.all_mk KX G hmg ?B ?Z ?Y ?Y2 ?R ?Ap ?T_Change ?T_Rule ?T_Clock ?T_Recurrence ?T_Kept ?T_is_leap ?T_days_before_month ?T_month_length ?T_is_date ?T_first_of_year ?T_day_number ?T_is_day ?T_year_of ?T_date_of ?T_month_number ?T_is_month ?T_month_first ?T_weekday_of ?T_week_of ?T_nth_weekday ?T_is_moment ?T_clock_from ?T_rule_from ?T_is_offset ?T_are_changes ?T_are_rules ?T_is_rule ?T_ever_meet ?T_rule_moment ?T_latest_moment ?T_offset_at ?T_offsets_of ?T_moments_of ?T_recurrence_from ?T_lists_from ?T_are_ahead ?T_are_days ?T_are_months ?T_are_pairs ?T_rise_within ?T_rise ?T_origins_of ?T_table_of ?T_told_of_month ?T_day_of_pair ?T_count_between ?T_count_in_month ?T_has_month ?T_count_by_turns ?T_is_one ?T_nth_between ?T_nth_in_month ?T_is_span ?T_add_months ?T_add_span ?T_span_between ?T_answer_day ?T_answer_date ?T_answer_setclock ?T_answer_offset ?T_answer_read ?T_answer_when ?T_answer_add ?T_answer_far ?T_answer_setrecur ?T_answer_isone ?T_answer_count ?T_answer_nth ?T_answer_call ?T_answers
    (case T_Change => refine' Cc.txc_mk KX G ?aC ?a ?i ?l ?c ?k ?mk ?kc; (case aC => k_is); (case a => k_is); (case i => k_is); (case l => k_is); (case c => k_is); (case k => k_is); (case mk => k_is); (case kc => k_is))
    (case T_Rule => refine' Cc.txc_mk KX G ?aC ?a ?i ?l ?c ?k ?mk ?kc; (case aC => k_is); (case a => k_is); (case i => k_is); (case l => k_is); (case c => k_is); (case k => k_is); (case mk => k_is); (case kc => k_is))
    (case T_Clock => refine' Cc.txc_mk KX G ?aC ?a ?i ?l ?c ?k ?mk ?kc; (case aC => k_is); (case a => k_is); (case i => k_is); (case l => k_is); (case c => k_is); (case k => k_is); (case mk => k_is); (case kc => k_is))
    (case T_Recurrence => refine' Cc.txc_mk KX G ?aC ?a ?i ?l ?c ?k ?mk ?kc; (case aC => k_is); (case a => k_is); (case i => k_is); (case l => k_is); (case c => k_is); (case k => k_is); (case mk => k_is); (case kc => k_is))
    (case T_Kept => refine' Cc.txc_mk KX G ?aC ?a ?i ?l ?c ?k ?mk ?kc; (case aC => k_is); (case a => k_is); (case i => k_is); (case l => k_is); (case c => k_is); (case k => k_is); (case mk => k_is); (case kc => k_is))
    (case T_is_leap => refine' Cc.txd_mk KX G ?a ?l ?c ?k; (case a => k_is); (case l => k_is); (case c => k_is); (case k => k_is))
    (case T_days_before_month => refine' Cc.txd_mk KX G ?a ?l ?c ?k; (case a => k_is); (case l => k_is); (case c => k_is); (case k => k_is))
    (case T_month_length => refine' Cc.txd_mk KX G ?a ?l ?c ?k; (case a => k_is); (case l => k_is); (case c => k_is); (case k => k_is))
    (case T_is_date => refine' Cc.txd_mk KX G ?a ?l ?c ?k; (case a => k_is); (case l => k_is); (case c => k_is); (case k => k_is))
    (case T_first_of_year => refine' Cc.txd_mk KX G ?a ?l ?c ?k; (case a => k_is); (case l => k_is); (case c => k_is); (case k => k_is))
    (case T_day_number => refine' Cc.txd_mk KX G ?a ?l ?c ?k; (case a => k_is); (case l => k_is); (case c => k_is); (case k => k_is))
    (case T_is_day => refine' Cc.txd_mk KX G ?a ?l ?c ?k; (case a => k_is); (case l => k_is); (case c => k_is); (case k => k_is))
    (case T_year_of => refine' Cc.txd_mk KX G ?a ?l ?c ?k; (case a => k_is); (case l => k_is); (case c => k_is); (case k => k_is))
    (case T_date_of => refine' Cc.txd_mk KX G ?a ?l ?c ?k; (case a => k_is); (case l => k_is); (case c => k_is); (case k => k_is))
    (case T_month_number => refine' Cc.txd_mk KX G ?a ?l ?c ?k; (case a => k_is); (case l => k_is); (case c => k_is); (case k => k_is))
    (case T_is_month => refine' Cc.txd_mk KX G ?a ?l ?c ?k; (case a => k_is); (case l => k_is); (case c => k_is); (case k => k_is))
    (case T_month_first => refine' Cc.txd_mk KX G ?a ?l ?c ?k; (case a => k_is); (case l => k_is); (case c => k_is); (case k => k_is))
    (case T_weekday_of => refine' Cc.txd_mk KX G ?a ?l ?c ?k; (case a => k_is); (case l => k_is); (case c => k_is); (case k => k_is))
    (case T_week_of => refine' Cc.txd_mk KX G ?a ?l ?c ?k; (case a => k_is); (case l => k_is); (case c => k_is); (case k => k_is))
    (case T_nth_weekday => refine' Cc.txd_mk KX G ?a ?l ?c ?k; (case a => k_is); (case l => k_is); (case c => k_is); (case k => k_is))
    (case T_is_moment => refine' Cc.txd_mk KX G ?a ?l ?c ?k; (case a => k_is); (case l => k_is); (case c => k_is); (case k => k_is))
    (case T_clock_from => refine' Cc.txd_mk KX G ?a ?l ?c ?k; (case a => k_is); (case l => k_is); (case c => k_is); (case k => k_is))
    (case T_rule_from => refine' Cc.txd_mk KX G ?a ?l ?c ?k; (case a => k_is); (case l => k_is); (case c => k_is); (case k => k_is))
    (case T_is_offset => refine' Cc.txd_mk KX G ?a ?l ?c ?k; (case a => k_is); (case l => k_is); (case c => k_is); (case k => k_is))
    (case T_are_changes => refine' Cc.txd_mk KX G ?a ?l ?c ?k; (case a => k_is); (case l => k_is); (case c => k_is); (case k => k_is))
    (case T_are_rules => refine' Cc.txd_mk KX G ?a ?l ?c ?k; (case a => k_is); (case l => k_is); (case c => k_is); (case k => k_is))
    (case T_is_rule => refine' Cc.txd_mk KX G ?a ?l ?c ?k; (case a => k_is); (case l => k_is); (case c => k_is); (case k => k_is))
    (case T_ever_meet => refine' Cc.txd_mk KX G ?a ?l ?c ?k; (case a => k_is); (case l => k_is); (case c => k_is); (case k => k_is))
    (case T_rule_moment => refine' Cc.txd_mk KX G ?a ?l ?c ?k; (case a => k_is); (case l => k_is); (case c => k_is); (case k => k_is))
    (case T_latest_moment => refine' Cc.txd_mk KX G ?a ?l ?c ?k; (case a => k_is); (case l => k_is); (case c => k_is); (case k => k_is))
    (case T_offset_at => refine' Cc.txd_mk KX G ?a ?l ?c ?k; (case a => k_is); (case l => k_is); (case c => k_is); (case k => k_is))
    (case T_offsets_of => refine' Cc.txd_mk KX G ?a ?l ?c ?k; (case a => k_is); (case l => k_is); (case c => k_is); (case k => k_is))
    (case T_moments_of => refine' Cc.txd_mk KX G ?a ?l ?c ?k; (case a => k_is); (case l => k_is); (case c => k_is); (case k => k_is))
    (case T_recurrence_from => refine' Cc.txd_mk KX G ?a ?l ?c ?k; (case a => k_is); (case l => k_is); (case c => k_is); (case k => k_is))
    (case T_lists_from => refine' Cc.txd_mk KX G ?a ?l ?c ?k; (case a => k_is); (case l => k_is); (case c => k_is); (case k => k_is))
    (case T_are_ahead => refine' Cc.txd_mk KX G ?a ?l ?c ?k; (case a => k_is); (case l => k_is); (case c => k_is); (case k => k_is))
    (case T_are_days => refine' Cc.txd_mk KX G ?a ?l ?c ?k; (case a => k_is); (case l => k_is); (case c => k_is); (case k => k_is))
    (case T_are_months => refine' Cc.txd_mk KX G ?a ?l ?c ?k; (case a => k_is); (case l => k_is); (case c => k_is); (case k => k_is))
    (case T_are_pairs => refine' Cc.txd_mk KX G ?a ?l ?c ?k; (case a => k_is); (case l => k_is); (case c => k_is); (case k => k_is))
    (case T_rise_within => refine' Cc.txd_mk KX G ?a ?l ?c ?k; (case a => k_is); (case l => k_is); (case c => k_is); (case k => k_is))
    (case T_rise => refine' Cc.txd_mk KX G ?a ?l ?c ?k; (case a => k_is); (case l => k_is); (case c => k_is); (case k => k_is))
    (case T_origins_of => refine' Cc.txd_mk KX G ?a ?l ?c ?k; (case a => k_is); (case l => k_is); (case c => k_is); (case k => k_is))
    (case T_table_of => refine' Cc.txd_mk KX G ?a ?l ?c ?k; (case a => k_is); (case l => k_is); (case c => k_is); (case k => k_is))
    (case T_told_of_month => refine' Cc.txd_mk KX G ?a ?l ?c ?k; (case a => k_is); (case l => k_is); (case c => k_is); (case k => k_is))
    (case T_day_of_pair => refine' Cc.txd_mk KX G ?a ?l ?c ?k; (case a => k_is); (case l => k_is); (case c => k_is); (case k => k_is))
    (case T_count_between => refine' Cc.txd_mk KX G ?a ?l ?c ?k; (case a => k_is); (case l => k_is); (case c => k_is); (case k => k_is))
    (case T_count_in_month => refine' Cc.txd_mk KX G ?a ?l ?c ?k; (case a => k_is); (case l => k_is); (case c => k_is); (case k => k_is))
    (case T_has_month => refine' Cc.txd_mk KX G ?a ?l ?c ?k; (case a => k_is); (case l => k_is); (case c => k_is); (case k => k_is))
    (case T_count_by_turns => refine' Cc.txd_mk KX G ?a ?l ?c ?k; (case a => k_is); (case l => k_is); (case c => k_is); (case k => k_is))
    (case T_is_one => refine' Cc.txd_mk KX G ?a ?l ?c ?k; (case a => k_is); (case l => k_is); (case c => k_is); (case k => k_is))
    (case T_nth_between => refine' Cc.txd_mk KX G ?a ?l ?c ?k; (case a => k_is); (case l => k_is); (case c => k_is); (case k => k_is))
    (case T_nth_in_month => refine' Cc.txd_mk KX G ?a ?l ?c ?k; (case a => k_is); (case l => k_is); (case c => k_is); (case k => k_is))
    (case T_is_span => refine' Cc.txd_mk KX G ?a ?l ?c ?k; (case a => k_is); (case l => k_is); (case c => k_is); (case k => k_is))
    (case T_add_months => refine' Cc.txd_mk KX G ?a ?l ?c ?k; (case a => k_is); (case l => k_is); (case c => k_is); (case k => k_is))
    (case T_add_span => refine' Cc.txd_mk KX G ?a ?l ?c ?k; (case a => k_is); (case l => k_is); (case c => k_is); (case k => k_is))
    (case T_span_between => refine' Cc.txd_mk KX G ?a ?l ?c ?k; (case a => k_is); (case l => k_is); (case c => k_is); (case k => k_is))
    (case T_answer_day => refine' Cc.txd_mk KX G ?a ?l ?c ?k; (case a => k_is); (case l => k_is); (case c => k_is); (case k => k_is))
    (case T_answer_date => refine' Cc.txd_mk KX G ?a ?l ?c ?k; (case a => k_is); (case l => k_is); (case c => k_is); (case k => k_is))
    (case T_answer_setclock => refine' Cc.txd_mk KX G ?a ?l ?c ?k; (case a => k_is); (case l => k_is); (case c => k_is); (case k => k_is))
    (case T_answer_offset => refine' Cc.txd_mk KX G ?a ?l ?c ?k; (case a => k_is); (case l => k_is); (case c => k_is); (case k => k_is))
    (case T_answer_read => refine' Cc.txd_mk KX G ?a ?l ?c ?k; (case a => k_is); (case l => k_is); (case c => k_is); (case k => k_is))
    (case T_answer_when => refine' Cc.txd_mk KX G ?a ?l ?c ?k; (case a => k_is); (case l => k_is); (case c => k_is); (case k => k_is))
    (case T_answer_add => refine' Cc.txd_mk KX G ?a ?l ?c ?k; (case a => k_is); (case l => k_is); (case c => k_is); (case k => k_is))
    (case T_answer_far => refine' Cc.txd_mk KX G ?a ?l ?c ?k; (case a => k_is); (case l => k_is); (case c => k_is); (case k => k_is))
    (case T_answer_setrecur => refine' Cc.txd_mk KX G ?a ?l ?c ?k; (case a => k_is); (case l => k_is); (case c => k_is); (case k => k_is))
    (case T_answer_isone => refine' Cc.txd_mk KX G ?a ?l ?c ?k; (case a => k_is); (case l => k_is); (case c => k_is); (case k => k_is))
    (case T_answer_count => refine' Cc.txd_mk KX G ?a ?l ?c ?k; (case a => k_is); (case l => k_is); (case c => k_is); (case k => k_is))
    (case T_answer_nth => refine' Cc.txd_mk KX G ?a ?l ?c ?k; (case a => k_is); (case l => k_is); (case c => k_is); (case k => k_is))
    (case T_answer_call => refine' Cc.txd_mk KX G ?a ?l ?c ?k; (case a => k_is); (case l => k_is); (case c => k_is); (case k => k_is))
    (case T_answers => refine' Cc.txd_mk KX G ?a ?l ?c ?k; (case a => k_is); (case l => k_is); (case c => k_is); (case k => k_is))
    (case B => refine' ⟨⟨_, PySem.W.mg_of KX G ?tb, rfl⟩, Cc.tup_mk ?tl ?tz ?tv, PySem.W.mg_none_of KX G ?z_min, PySem.W.mg_none_of KX G ?z_len, PySem.W.mg_none_of KX G ?z_range, PySem.W.mg_none_of KX G ?z_sorted, PySem.W.mg_none_of KX G ?z_max, PySem.W.mg_none_of KX G ?z_abs, PySem.W.mg_none_of KX G ?z_list, Cc.cst_mk KX G ?q_LAST_YEAR, Cc.cst_mk KX G ?q_DAYS_BEFORE_1970, Cc.cst_mk KX G ?q_LAST_DAY, Cc.cst_mk KX G ?q_DAY_SECONDS, Cc.cst_mk KX G ?q_DAYS_IN_400_YEARS, Cc.cst_mk KX G ?q_DAYS_IN_100_YEARS, Cc.cst_mk KX G ?q_DAYS_IN_4_YEARS, Cc.cst_mk KX G ?q_DAYS_IN_YEAR, Cc.cst_mk KX G ?q_MOST_CHANGES, Cc.cst_mk KX G ?q_BY_DAY, Cc.cst_mk KX G ?q_BY_WEEK, Cc.cst_mk KX G ?q_BY_MONTH, Cc.cst_mk KX G ?q_BY_YEAR, Cc.cst_mk KX G ?q_MOST_EVERY, Cc.cst_mk KX G ?q_MOST_DAYS_recurrences, Cc.cst_mk KX G ?q_MOST_MONTHS_recurrences, Cc.cst_mk KX G ?q_MOST_PAIRS, Cc.cst_mk KX G ?q_NUMBERS_AHEAD, Cc.cst_mk KX G ?q_MOST_MONTHS_spans, Cc.cst_mk KX G ?q_MOST_DAYS_spans, Cc.cst_mk KX G ?q_ELSE_LAST, Cc.cst_mk KX G ?q_ELSE_NEXT, Cc.cst_mk KX G ?q_ELSE_NONE, Cc.cst_mk KX G ?q_MOST_LOOKED_AT⟩; (case tb => k_is); (case tl => k_is); (case tz => decide); (case tv => exact (.cons ⟨_, rfl⟩ (.cons ⟨_, rfl⟩ (.cons ⟨_, rfl⟩ (.cons ⟨_, rfl⟩ (.cons ⟨_, rfl⟩ (.cons ⟨_, rfl⟩ (.cons ⟨_, rfl⟩ (.cons ⟨_, rfl⟩ (.cons ⟨_, rfl⟩ (.cons ⟨_, rfl⟩ (.cons ⟨_, rfl⟩ (.cons ⟨_, rfl⟩ (.cons ⟨_, rfl⟩ .nil)))))))))))))); (case z_min => k_is); (case z_len => k_is); (case z_range => k_is); (case z_sorted => k_is); (case z_max => k_is); (case z_abs => k_is); (case z_list => k_is); (case q_LAST_YEAR => k_is); (case q_DAYS_BEFORE_1970 => k_is); (case q_LAST_DAY => k_is); (case q_DAY_SECONDS => k_is); (case q_DAYS_IN_400_YEARS => k_is); (case q_DAYS_IN_100_YEARS => k_is); (case q_DAYS_IN_4_YEARS => k_is); (case q_DAYS_IN_YEAR => k_is); (case q_MOST_CHANGES => k_is); (case q_BY_DAY => k_is); (case q_BY_WEEK => k_is); (case q_BY_MONTH => k_is); (case q_BY_YEAR => k_is); (case q_MOST_EVERY => k_is); (case q_MOST_DAYS_recurrences => k_is); (case q_MOST_MONTHS_recurrences => k_is); (case q_MOST_PAIRS => k_is); (case q_NUMBERS_AHEAD => k_is); (case q_MOST_MONTHS_spans => k_is); (case q_MOST_DAYS_spans => k_is); (case q_ELSE_LAST => k_is); (case q_ELSE_NEXT => k_is); (case q_ELSE_NONE => k_is); (case q_MOST_LOOKED_AT => k_is))
    (case Z => refine' ⟨Cc.cls_mk ?pg1 ?hd1 ?po1 ?sa1, Cc.cls_mk ?pg2 ?hd2 ?po2 ?sa2, Cc.cls_mk ?pg3 ?hd3 ?po3 ?sa3, Cc.na_mk ?ch1, Cc.na_mk ?ch2, Cc.na_mk ?ru1, Cc.na_mk ?ru2, Cc.na_mk ?ru3, Cc.na_mk ?ru4, Cc.na_mk ?ru5, Cc.na_mk ?ck1, Cc.na_mk ?ck2, Cc.na_mk ?ck3⟩; (case pg1 => k_is); (case hd1 => k_is); (case po1 => k_is); (case sa1 => k_is); (case pg2 => k_is); (case hd2 => k_is); (case po2 => k_is); (case sa2 => k_is); (case pg3 => k_is); (case hd3 => k_is); (case po3 => k_is); (case sa3 => k_is); (case ch1 => k_is); (case ch2 => k_is); (case ru1 => k_is); (case ru2 => k_is); (case ru3 => k_is); (case ru4 => k_is); (case ru5 => k_is); (case ck1 => k_is); (case ck2 => k_is); (case ck3 => k_is))
    (case Y => refine' ⟨Cc.cls_mk ?pg4 ?hd4 ?po4 ?sa4, Cc.na_mk ?c1⟩; (case pg4 => k_is); (case hd4 => k_is); (case po4 => k_is); (case sa4 => k_is); (case c1 => k_is))
    (case Y2 => refine' Cc.na_mk ?y2; (case y2 => k_is))
    (case R => refine' ⟨Cc.cls_mk ?pg5 ?hd5 ?po5 ?sa5, Cc.na_mk ?n1, Cc.na_mk ?n2, Cc.na_mk ?n3, Cc.na_mk ?n4, Cc.na_mk ?n5, Cc.na_mk ?n6, Cc.na_mk ?n7, Cc.na_mk ?n8⟩; (case pg5 => k_is); (case hd5 => k_is); (case po5 => k_is); (case sa5 => k_is); (case n1 => k_is); (case n2 => k_is); (case n3 => k_is); (case n4 => k_is); (case n5 => k_is); (case n6 => k_is); (case n7 => k_is); (case n8 => k_is))
    (case Ap => exact ⟨by decide, by decide, by decide, by decide⟩)
  case S =>
    intro K H xs a hO hwi hask hx
    cases hx with
    | cons h1 h2 =>
      cases h2
      cases h1 with
      | lst hs ha =>
        have e := L2.ints_dw a.1 _ ha
        subst e
        have q : ((Codec.inLen 0 15000 a.1 && a.1.all (Codec.inInt (-100000000000000000000) 100000000000000000000)) && true) = true := hwi
        rw [Bool.and_eq_true, Bool.and_eq_true] at q
        exact ⟨_, a.1, rfl, hs, (Codec.inNat_iff.mp q.1.1).2, hask, fun H' p hp => .lst (L2.SqL.of hp) (L2.dw_ints _)⟩
#print axioms PySem.Challenge.cw_calendarclocks_s01_answers_holds
