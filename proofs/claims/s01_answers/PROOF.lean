import PyProof.Rows.All
import PyCl02
import PyFlatLaws
import Wide.All
import OpenK.AllK
import Wide.FinOn
import Open.SpecLaws
import KE.OsGo
import HandS.ForSpec
import HandS.Comp
import HandS.Strs
import HandS.SetFor
import PyProof.Rows.SetFrom
import HandS.Lambda
import HandS.ExcValue
import HandS.SortKw
import KE.SortKeyHeap
import KE.DataMinMax
import PySem.Challenge.RW_placeclocks_s01_answers
set_option Elab.async false
set_option linter.all false
set_option maxRecDepth 100000
/-! Dates of the specification: months, years, turns. Plain Lean. -/
namespace PcM
open Cl01 (monthDays monthStart yearOf monthOf domOf weekday itemDay leap)
theorem leap_iff (y : Nat) : leap y = true ↔ y % 4 = 0 := by
  unfold leap
  exact beq_iff_eq
theorem monthDays_two (y : Nat) : monthDays y 2 = if y % 4 = 0 then 29 else 28 := by
  show (if leap y = true then 29 else 28) = _
  by_cases h : y % 4 = 0
  · rw [if_pos ((leap_iff y).mpr h), if_pos h]
  · rw [if_neg (fun z => h ((leap_iff y).mp z)), if_neg h]
theorem monthDays_ge (y m : Nat) : 28 ≤ monthDays y m := by
  unfold monthDays
  split <;> (try split) <;> omega
theorem monthDays_le (y m : Nat) : monthDays y m ≤ 31 := by
  unfold monthDays
  split <;> (try split) <;> omega
theorem monthStart_one (y : Nat) : monthStart y 1 = 365 * y + (y + 3) / 4 := rfl
theorem monthStart_zero (y : Nat) : monthStart y 0 = 365 * y + (y + 3) / 4 := rfl
theorem monthStart_succ (y m : Nat) (h : 1 ≤ m) : monthStart y (m + 1) = monthStart y m + monthDays y m := by
  obtain ⟨k, rfl⟩ : ∃ k, m = k + 1 := ⟨m - 1, by omega⟩
  unfold monthStart
  rw [show k + 1 + 1 - 1 = k + 1 from rfl, show k + 1 - 1 = k from rfl, List.range_succ, List.map_append, List.foldl_append]
  show _ + (_ + monthDays y (k + 1)) = _
  omega
theorem monthStart_mono (y : Nat) {m k : Nat} (h : m ≤ k) : monthStart y m ≤ monthStart y k := by
  induction k with
  | zero =>
    obtain rfl : m = 0 := by omega
    exact Nat.le_refl _
  | succ k ih =>
    by_cases e : m = k + 1
    · rw [e]
      exact Nat.le_refl _
    · by_cases hk : 1 ≤ k
      · have h1 := monthStart_succ y k hk
        have h2 := ih (by omega)
        omega
      · obtain rfl : k = 0 := by omega
        obtain rfl : m = 0 := by omega
        exact Nat.le_refl _
theorem monthStart_lt (y : Nat) {m k : Nat} (h1 : 1 ≤ m) (h : m < k) : monthStart y m + 28 ≤ monthStart y k := by
  have a := monthStart_mono y (show m + 1 ≤ k from h)
  have b := monthStart_succ y m h1
  have c := monthDays_ge y m
  omega
theorem leap_no {y : Nat} (h : ¬ y % 4 = 0) : (y + 1 + 3) / 4 = (y + 3) / 4 := by
  omega
theorem monthStart_13 (y : Nat) : monthStart y 13 = monthStart (y + 1) 1 := by
  have h1 := monthStart_one y
  have h1' := monthStart_one (y + 1)
  have s1 : monthStart y 2 = monthStart y 1 + 31 := monthStart_succ y 1 (by omega)
  have s2 : monthStart y 3 = monthStart y 2 + monthDays y 2 := monthStart_succ y 2 (by omega)
  have s3 : monthStart y 4 = monthStart y 3 + 31 := monthStart_succ y 3 (by omega)
  have s4 : monthStart y 5 = monthStart y 4 + 30 := monthStart_succ y 4 (by omega)
  have s5 : monthStart y 6 = monthStart y 5 + 31 := monthStart_succ y 5 (by omega)
  have s6 : monthStart y 7 = monthStart y 6 + 30 := monthStart_succ y 6 (by omega)
  have s7 : monthStart y 8 = monthStart y 7 + 31 := monthStart_succ y 7 (by omega)
  have s8 : monthStart y 9 = monthStart y 8 + 31 := monthStart_succ y 8 (by omega)
  have s9 : monthStart y 10 = monthStart y 9 + 30 := monthStart_succ y 9 (by omega)
  have s10 : monthStart y 11 = monthStart y 10 + 31 := monthStart_succ y 10 (by omega)
  have s11 : monthStart y 12 = monthStart y 11 + 30 := monthStart_succ y 11 (by omega)
  have s12 : monthStart y 13 = monthStart y 12 + 31 := monthStart_succ y 12 (by omega)
  have d := monthDays_two y
  by_cases h : y % 4 = 0
  · rw [if_pos h] at d
    have e : (y + 1 + 3) / 4 = (y + 3) / 4 + 1 := by omega
    omega
  · rw [if_neg h] at d
    have e := leap_no h
    omega
theorem yearStart_mono {y z : Nat} (h : y ≤ z) : monthStart y 1 ≤ monthStart z 1 := by
  rw [monthStart_one, monthStart_one]
  omega
/-- the year of a day, from its two ends -/
theorem yearOf_ge (n : Nat) : monthStart (yearOf n) 1 ≤ n := by
  rw [monthStart_one]
  unfold yearOf
  split <;> omega
theorem yearOf_lt (n : Nat) : n < monthStart (yearOf n + 1) 1 := by
  rw [monthStart_one]
  unfold yearOf
  split <;> omega
theorem yearOf_eq {n y : Nat} (h1 : monthStart y 1 ≤ n) (h2 : n < monthStart (y + 1) 1) : yearOf n = y := by
  have a := yearOf_ge n
  have b := yearOf_lt n
  rcases Nat.lt_trichotomy (yearOf n) y with h | h | h
  · have := yearStart_mono (show yearOf n + 1 ≤ y from h)
    omega
  · exact h
  · have := yearStart_mono (show y + 1 ≤ yearOf n from h)
    omega
theorem yearOf_mono {m n : Nat} (h : m ≤ n) : yearOf m ≤ yearOf n := by
  have a := yearOf_ge m
  have b := yearOf_lt n
  rcases Nat.lt_or_ge (yearOf n) (yearOf m) with q | q
  · have := yearStart_mono (show yearOf n + 1 ≤ yearOf m from q)
    omega
  · exact q
theorem yearStart_100 : monthStart 100 1 = 36525 := by rw [monthStart_one]
theorem yearOf_lt_100 {n : Nat} (h : n < 36525) : yearOf n < 100 := by
  rcases Nat.lt_or_ge (yearOf n) 100 with q | q
  · exact q
  · have a := yearStart_mono q
    have b := yearOf_ge n
    rw [yearStart_100] at a
    omega
/-- the month of a day, from its two ends -/
theorem filter_len (f : Nat → Nat) (n k : Nat) (hk : k ≤ 12) (h1 : ∀ i, i < k → f i ≤ n) (h2 : ∀ i, k ≤ i → i < 12 → n < f i) :
    ((List.range 12).filter fun (i : Nat) => decide (f i ≤ n)).length = k := by
  have e : List.range 12 = List.range k ++ (List.range (12 - k)).map (fun x => k + x) := by
    rw [← List.range_add, Nat.add_sub_cancel' hk]
  rw [e, List.filter_append, List.length_append, List.filter_eq_self.mpr, List.filter_eq_nil_iff.mpr, List.length_range]
  · rfl
  · intro a ha
    obtain ⟨x, hx, rfl⟩ := List.mem_map.mp ha
    have := List.mem_range.mp hx
    have := h2 (k + x) (by omega) (by omega)
    simp only [decide_eq_true_eq]
    omega
  · intro a ha
    exact decide_eq_true (h1 a (List.mem_range.mp ha))
theorem monthOf_eq {n m : Nat} (h1 : 1 ≤ m) (h12 : m ≤ 12) (ha : monthStart (yearOf n) m ≤ n) (hb : n < monthStart (yearOf n) (m + 1)) : monthOf n = m := by
  unfold monthOf
  refine filter_len (fun k => monthStart (yearOf n) (k + 1)) n m h12 (fun i hi => ?_) (fun i hi _ => ?_)
  · have := monthStart_mono (yearOf n) (show i + 1 ≤ m from hi)
    show monthStart (yearOf n) (i + 1) ≤ n
    omega
  · have := monthStart_mono (yearOf n) (show m + 1 ≤ i + 1 by omega)
    show n < monthStart (yearOf n) (i + 1)
    omega
/-! ### turns -/
theorem itemDay2 (y m k w : Nat) (hk1 : 1 ≤ k) (hk : k ≤ 4) :
    itemDay y m ⟨2, k, w⟩ = some (monthStart y m + (w + 7 - weekday (monthStart y m)) % 7 + 7 * (k - 1)) := by
  have h := monthDays_ge y m
  show (if monthStart y m + (w + 7 - weekday (monthStart y m)) % 7 + 7 * (k - 1) < monthStart y m + monthDays y m then some (monthStart y m + (w + 7 - weekday (monthStart y m)) % 7 + 7 * (k - 1)) else none) = _
  rw [if_pos (by omega)]
theorem itemDay3 (y m k w : Nat) (hk1 : 1 ≤ k) (hk : k ≤ 4) :
    itemDay y m ⟨3, k, w⟩ = some (monthStart y m + monthDays y m - 1 - (weekday (monthStart y m + monthDays y m - 1) + 7 - w) % 7 - 7 * (k - 1)) := by
  have h := monthDays_ge y m
  show (if monthStart y m + 7 * (k - 1) ≤ monthStart y m + monthDays y m - 1 - (weekday (monthStart y m + monthDays y m - 1) + 7 - w) % 7 then some (monthStart y m + monthDays y m - 1 - (weekday (monthStart y m + monthDays y m - 1) + 7 - w) % 7 - 7 * (k - 1)) else none) = _
  rw [if_pos (by omega)]
/-- a turn as it may be decreed -/
structure OkT (t : Cl02.Turn) : Prop where
  k1 : 1 ≤ t.k
  k4 : t.k ≤ 4
  w7 : t.w < 7
  m1 : 1 ≤ t.month
  m12 : t.month ≤ 12
  min : t.minute < 1440
/-- the day of a turn -/
def turnDay (y : Nat) (t : Cl02.Turn) : Nat :=
  if t.back = true then monthStart y t.month + monthDays y t.month - 1 - (weekday (monthStart y t.month + monthDays y t.month - 1) + 7 - t.w) % 7 - 7 * (t.k - 1)
  else monthStart y t.month + (t.w + 7 - weekday (monthStart y t.month)) % 7 + 7 * (t.k - 1)
theorem turnAt_eq {t : Cl02.Turn} (h : OkT t) (y : Nat) : Cl02.turnAt y t = 1440 * turnDay y t + t.minute := by
  unfold Cl02.turnAt turnDay
  cases hb : t.back with
  | true =>
    rw [if_pos rfl, if_pos rfl, itemDay3 _ _ _ _ h.k1 h.k4]
    rfl
  | false =>
    rw [if_neg (by simp), if_neg (by simp), itemDay2 _ _ _ _ h.k1 h.k4]
    rfl
theorem turnDay_ge {t : Cl02.Turn} (h : OkT t) (y : Nat) : monthStart y t.month ≤ turnDay y t := by
  have a := monthDays_ge y t.month
  have b := h.k4
  unfold turnDay
  split <;> omega
theorem turnDay_lt {t : Cl02.Turn} (h : OkT t) (y : Nat) : turnDay y t < monthStart y (t.month + 1) := by
  have a := monthDays_ge y t.month
  have b := h.k4
  have c := monthStart_succ y t.month h.m1
  unfold turnDay
  split <;> omega
theorem turnDay_year {t : Cl02.Turn} (h : OkT t) (y : Nat) : yearOf (turnDay y t) = y := by
  refine yearOf_eq (Nat.le_trans (monthStart_mono y h.m1) (turnDay_ge h y)) (Nat.lt_of_lt_of_le (turnDay_lt h y) ?_)
  rw [← monthStart_13]
  have := h.m12
  exact monthStart_mono y (by omega)
theorem turnAt_day {t : Cl02.Turn} (h : OkT t) (y : Nat) : Cl02.turnAt y t / 1440 = turnDay y t := by
  rw [turnAt_eq h]
  have := h.min
  omega
theorem turnAt_year {t : Cl02.Turn} (h : OkT t) (y : Nat) : yearOf (Cl02.turnAt y t / 1440) = y := by
  rw [turnAt_day h, turnDay_year h]
theorem turnAt_lt_of_month {a b : Cl02.Turn} (ha : OkT a) (hb : OkT b) (h : a.month < b.month) (y : Nat) : Cl02.turnAt y a < Cl02.turnAt y b := by
  rw [turnAt_eq ha, turnAt_eq hb]
  have h1 := turnDay_lt ha y
  have h2 := turnDay_ge hb y
  have h3 := monthStart_mono y (show a.month + 1 ≤ b.month from h)
  have := ha.min
  omega
/-- the moments of a year -/
theorem turnAt_ge {t : Cl02.Turn} (h : OkT t) (y : Nat) : 1440 * monthStart y 1 ≤ Cl02.turnAt y t := by
  rw [turnAt_eq h]
  have := turnDay_ge h y
  have := monthStart_mono y h.m1
  omega
theorem turnAt_lt {t : Cl02.Turn} (h : OkT t) (y : Nat) : Cl02.turnAt y t < 1440 * monthStart (y + 1) 1 := by
  rw [turnAt_eq h]
  have h1 := turnDay_lt h y
  have h2 := monthStart_mono y (show t.month + 1 ≤ 13 by have := h.m12; omega)
  rw [monthStart_13] at h2
  have := h.min
  omega
end PcM
/-! Places of the specification: what is in force, by how much clocks are ahead, where that may change. Plain Lean. -/
namespace PcM
open Cl01 (monthDays monthStart yearOf)
open Cl02 (Decree Place Turn MOMENTS turnAt inForce ahead offsetAt shown)
theorem moments_eq : MOMENTS = 52596000 := rfl
structure OkD (d : Decree) : Prop where
  from_ : d.from_ < MOMENTS
  lo : -840 ≤ d.offset
  hi : d.offset ≤ 840
  sum : ∀ (x : Nat) (a b : Turn), d.summer = some (x, a, b) → 1 ≤ x ∧ x ≤ 120 ∧ OkT a ∧ OkT b ∧ a.month ≠ b.month
structure OkP (p : Place) : Prop where
  ok : ∀ d ∈ p, OkD d
  srt : p.Pairwise fun a b => a.from_ < b.from_
  first : ∃ d r, p = d :: r ∧ d.from_ = 0
  few : p.length ≤ 8
/-! ### lists put in order -/
theorem insert_mem (le : Nat → Nat → Bool) (a x : Nat) : ∀ l : List Nat, x ∈ Cl01.insert le a l ↔ x = a ∨ x ∈ l
  | [] => by simp [Cl01.insert]
  | b :: l => by
    unfold Cl01.insert
    split
    · rename_i e
      subst e
      simp
    · split
      · simp
      · rw [List.mem_cons, insert_mem le a x l, List.mem_cons]
        constructor
        · rintro (h | h | h)
          · exact .inr (.inl h)
          · exact .inl h
          · exact .inr (.inr h)
        · rintro (h | h | h)
          · exact .inr (.inl h)
          · exact .inl h
          · exact .inr (.inr h)
theorem insert_srt (a : Nat) : ∀ l : List Nat, l.Pairwise (· < ·) → (Cl01.insert (fun x y => decide (x < y)) a l).Pairwise (· < ·)
  | [], _ => by simp [Cl01.insert]
  | b :: l, h => by
    unfold Cl01.insert
    split
    · exact h
    · rename_i e
      split
      · rename_i q
        have q' : a < b := of_decide_eq_true q
        refine List.pairwise_cons.mpr ⟨fun x hx => ?_, h⟩
        rcases List.mem_cons.mp hx with z | z
        · omega
        · have := (List.pairwise_cons.mp h).1 x z
          omega
      · rename_i q
        have q' : ¬ a < b := fun z => q (decide_eq_true z)
        obtain ⟨h1, h2⟩ := (List.pairwise_cons).mp h
        refine List.pairwise_cons.mpr ⟨fun x hx => ?_, insert_srt a l h2⟩
        rcases (insert_mem _ a x l).mp hx with z | z
        · omega
        · exact h1 x z
theorem foldl_insert (l : List Nat) : ∀ m : List Nat, m.Pairwise (· < ·) → (l.foldl (fun m a => Cl01.insert (fun x y => decide (x < y)) a m) m).Pairwise (· < ·) ∧
    ∀ x, x ∈ l.foldl (fun m a => Cl01.insert (fun x y => decide (x < y)) a m) m ↔ x ∈ l ∨ x ∈ m := by
  induction l with
  | nil => exact fun m h => ⟨h, fun x => by simp⟩
  | cons a l ih =>
    intro m h
    obtain ⟨i1, i2⟩ := ih _ (insert_srt a m h)
    refine ⟨i1, fun x => ?_⟩
    rw [List.foldl_cons, i2, insert_mem, List.mem_cons]
    constructor
    · rintro (h | h | h)
      · exact .inl (.inr h)
      · exact .inl (.inl h)
      · exact .inr h
    · rintro ((h | h) | h)
      · exact .inr (.inl h)
      · exact .inl h
      · exact .inr (.inr h)
theorem sorted_srt (l : List Nat) : (Cl01.sorted l).Pairwise (· < ·) := (foldl_insert l [] .nil).1
theorem mem_sorted (l : List Nat) (x : Nat) : x ∈ Cl01.sorted l ↔ x ∈ l := by
  have h := (foldl_insert l [] .nil).2 x
  unfold Cl01.sorted
  rw [h]
  simp
/-- two strictly rising lists with the same members are one -/
theorem srt_ext : ∀ {l m : List Nat}, l.Pairwise (· < ·) → m.Pairwise (· < ·) → (∀ x, x ∈ l ↔ x ∈ m) → l = m
  | [], [], _, _, _ => rfl
  | [], b :: m, _, _, h => absurd ((h b).mpr (List.mem_cons_self ..)) (by simp)
  | a :: l, [], _, _, h => absurd ((h a).mp (List.mem_cons_self ..)) (by simp)
  | a :: l, b :: m, h1, h2, h => by
    obtain ⟨a1, a2⟩ := List.pairwise_cons.mp h1
    obtain ⟨b1, b2⟩ := List.pairwise_cons.mp h2
    have e : a = b := by
      rcases List.mem_cons.mp ((h a).mp (List.mem_cons_self ..)) with z | z
      · exact z
      · rcases List.mem_cons.mp ((h b).mpr (List.mem_cons_self ..)) with y | y
        · exact y.symm
        · have := a1 b y
          have := b1 a z
          omega
    subst e
    congr 1
    refine srt_ext a2 b2 fun x => ⟨fun hx => ?_, fun hx => ?_⟩
    · rcases List.mem_cons.mp ((h x).mp (List.mem_cons_of_mem _ hx)) with z | z
      · have := a1 x hx
        omega
      · exact z
    · rcases List.mem_cons.mp ((h x).mpr (List.mem_cons_of_mem _ hx)) with z | z
      · have := b1 x hx
        omega
      · exact z
/-- find? in a strictly rising list gives the least one -/
theorem find_least {l : List Nat} (h : l.Pairwise (· < ·)) {q : Nat → Bool} {t : Nat} (ht : t ∈ l) (hq : q t = true) (hl : ∀ x, x ∈ l → q x = true → t ≤ x) : l.find? q = some t := by
  induction l with
  | nil => cases ht
  | cons a l ih =>
    obtain ⟨h1, h2⟩ := (List.pairwise_cons).mp h
    rw [List.find?_cons]
    by_cases e : q a = true
    · rw [e]
      have := hl a (List.mem_cons_self ..) e
      rcases List.mem_cons.mp ht with z | z
      · rw [z]
      · have := h1 t z
        omega
    · have e' : q a = false := by simpa using e
      rw [e']
      rcases List.mem_cons.mp ht with z | z
      · rw [z] at hq
        rw [hq] at e'
        cases e'
      · exact ih h2 z fun x hx => hl x (List.mem_cons_of_mem _ hx)
/-! ### the decree in force -/
theorem lastLe : ∀ (p : Place) (u : Nat) (d0 : Decree), p.Pairwise (fun a b => a.from_ < b.from_) →
    ((p.filter fun d => decide (d.from_ ≤ u)).getLast?).getD d0 = p.foldl (fun f d => if d.from_ ≤ u then d else f) d0
  | [], _, _, _ => rfl
  | a :: p, u, d0, h => by
    obtain ⟨h1, h2⟩ := (List.pairwise_cons).mp h
    rw [List.foldl_cons, List.filter_cons]
    by_cases e : a.from_ ≤ u
    · rw [if_pos (decide_eq_true e), if_pos e, ← lastLe p u a h2, List.getLast?_cons]
      rfl
    · rw [if_neg (fun z => e (of_decide_eq_true z)), if_neg e, ← lastLe p u d0 h2]
theorem inForce_fold {p : Place} (h : OkP p) (u : Nat) : inForce p u = p.foldl (fun f d => if d.from_ ≤ u then d else f) ⟨0, 0, none⟩ := lastLe p u _ h.srt
theorem inForce_mem {p : Place} (h : OkP p) (u : Nat) : inForce p u ∈ p ∧ (inForce p u).from_ ≤ u ∧ ∀ d ∈ p, d.from_ ≤ u → d.from_ ≤ (inForce p u).from_ := by
  obtain ⟨d, r, e, h0⟩ := h.first
  have hd : d ∈ p.filter fun (d : Decree) => decide (d.from_ ≤ u) := List.mem_filter.mpr ⟨by rw [e]; exact List.mem_cons_self .., decide_eq_true (by omega)⟩
  have hs : (p.filter fun (d : Decree) => decide (d.from_ ≤ u)).Pairwise fun a b => a.from_ < b.from_ := h.srt.filter _
  unfold inForce
  generalize hg : (p.filter fun (d : Decree) => decide (d.from_ ≤ u)) = f at hd hs
  have hne : f ≠ [] := List.ne_nil_of_mem hd
  have hl : f.getLast? = some (f.getLast hne) := List.getLast?_eq_some_getLast hne
  rw [hl]
  have hm : f.getLast hne ∈ f := List.getLast_mem hne
  have hm2 : ∀ x, x ∈ f → x ∈ p.filter fun (d : Decree) => decide (d.from_ ≤ u) := fun x hx => by
    rw [hg]
    exact hx
  have hm3 := List.mem_filter.mp (hm2 _ hm)
  refine ⟨hm3.1, of_decide_eq_true hm3.2, fun x hx hu => ?_⟩
  show x.from_ ≤ (f.getLast hne).from_
  have hxf : x ∈ f := by
    rw [← hg]
    exact List.mem_filter.mpr ⟨hx, decide_eq_true hu⟩
  generalize hz : f.getLast hne = z
  have e2 : f.dropLast ++ [z] = f := by
    rw [← hz]
    exact List.dropLast_concat_getLast hne
  rw [← e2] at hxf hs
  rcases List.mem_append.mp hxf with y | y
  · exact Nat.le_of_lt ((List.pairwise_append.mp hs).2.2 x y _ (List.mem_singleton.mpr rfl))
  · rw [List.mem_singleton.mp y]
    exact Nat.le_refl _
theorem from_inj {p : Place} (h : OkP p) {a b : Decree} (ha : a ∈ p) (hb : b ∈ p) (e : a.from_ = b.from_) : a = b := by
  have hs := h.srt
  clear h
  induction p with
  | nil => cases ha
  | cons c p ih =>
    obtain ⟨h1, h2⟩ := List.pairwise_cons.mp hs
    rcases List.mem_cons.mp ha with x | x <;> rcases List.mem_cons.mp hb with y | y
    · rw [x, y]
    · have := h1 b y
      rw [x] at e
      omega
    · have := h1 a x
      rw [y] at e
      omega
    · exact ih x y h2
theorem inForce_eq {p : Place} (h : OkP p) {u : Nat} {d : Decree} (hd : d ∈ p) (hu : d.from_ ≤ u) (hl : ∀ e ∈ p, e.from_ ≤ u → e.from_ ≤ d.from_) : inForce p u = d := by
  obtain ⟨a, b, c⟩ := inForce_mem h u
  exact from_inj h a hd (Nat.le_antisymm (hl _ a b) (c d hd hu))
theorem inForce_ok {p : Place} (h : OkP p) (u : Nat) : OkD (inForce p u) := h.ok _ (inForce_mem h u).1
/-! ### by how much clocks are ahead -/
def inSummer (a b : Turn) (u : Nat) : Bool :=
  if turnAt (yearOf (u / 1440)) a < turnAt (yearOf (u / 1440)) b then decide (turnAt (yearOf (u / 1440)) a ≤ u) && decide (u < turnAt (yearOf (u / 1440)) b)
  else decide (u < turnAt (yearOf (u / 1440)) b) || decide (turnAt (yearOf (u / 1440)) a ≤ u)
theorem ahead_none {d : Decree} (h : d.summer = none) (u : Nat) : ahead d u = d.offset := by
  unfold ahead
  rw [h]
theorem ahead_some {d : Decree} {x : Nat} {a b : Turn} (h : d.summer = some (x, a, b)) (u : Nat) : ahead d u = d.offset + if inSummer a b u = true then (x : Int) else 0 := by
  unfold ahead
  rw [h]
  rfl
theorem ahead_bounds {d : Decree} (h : OkD d) (u : Nat) : -840 ≤ ahead d u ∧ ahead d u ≤ 960 := by
  have a := h.lo
  have b := h.hi
  cases e : d.summer with
  | none =>
    rw [ahead_none e]
    omega
  | some t =>
    obtain ⟨x, s, t⟩ := t
    rw [ahead_some e]
    have c := h.sum _ _ _ e
    split <;> omega
theorem offset_bounds {p : Place} (h : OkP p) (u : Nat) : -840 ≤ offsetAt p u ∧ offsetAt p u ≤ 960 := ahead_bounds (inForce_ok h u) u
/-- the whole of years: moments of a year -/
theorem mom_year {u : Nat} : 1440 * monthStart (yearOf (u / 1440)) 1 ≤ u ∧ u < 1440 * monthStart (yearOf (u / 1440) + 1) 1 := by
  have a := Cl01.yearOf
  have h1 := yearOf_ge (u / 1440)
  have h2 := yearOf_lt (u / 1440)
  omega
theorem year_of_mom {u y : Nat} (h1 : 1440 * monthStart y 1 ≤ u) (h2 : u < 1440 * monthStart (y + 1) 1) : yearOf (u / 1440) = y := yearOf_eq (by omega) (by omega)
/-- where a decree's own clocks may jump -/
theorem summer_jump {a b : Turn} (ha : OkT a) (hb : OkT b) (hm : a.month ≠ b.month) {t : Nat} (ht : 0 < t) (hj : inSummer a b (t - 1) ≠ inSummer a b t) : t = turnAt (yearOf (t / 1440)) a ∨ t = turnAt (yearOf (t / 1440)) b := by
  have q := @mom_year t
  have q' := @mom_year (t - 1)
  by_cases e : yearOf ((t - 1) / 1440) = yearOf (t / 1440)
  · unfold inSummer at hj
    rw [e] at hj
    generalize turnAt (yearOf (t / 1440)) a = s at hj ⊢
    generalize turnAt (yearOf (t / 1440)) b = f at hj ⊢
    by_cases hs : t = s
    · exact .inl hs
    · by_cases hf : t = f
      · exact .inr hf
      · refine absurd ?_ hj
        have e1 : decide (s ≤ t - 1) = decide (s ≤ t) := by
          by_cases z : s ≤ t
          · rw [decide_eq_true z, decide_eq_true (show s ≤ t - 1 by omega)]
          · rw [decide_eq_false z, decide_eq_false (show ¬ s ≤ t - 1 by omega)]
        have e2 : decide (t - 1 < f) = decide (t < f) := by
          by_cases z : t < f
          · rw [decide_eq_true z, decide_eq_true (show t - 1 < f by omega)]
          · rw [decide_eq_false z, decide_eq_false (show ¬ t - 1 < f by omega)]
        rw [e1, e2]
  · -- t is the first moment of its year
    generalize hy : yearOf (t / 1440) = y at *
    generalize hz : yearOf ((t - 1) / 1440) = z at *
    have le : z ≤ y := by
      rw [← hy, ← hz]
      exact yearOf_mono (by omega)
    have mz := yearStart_mono (show z + 1 ≤ y by omega)
    have t1 : t = 1440 * monthStart y 1 := by omega
    have A := turnAt_ge ha y
    have B := turnAt_ge hb y
    have A' := turnAt_lt ha z
    have B' := turnAt_lt hb z
    unfold inSummer at hj
    rw [hy, hz] at hj
    rcases Nat.lt_or_gt_of_ne hm with m | m
    · have x := turnAt_lt_of_month ha hb m y
      have x' := turnAt_lt_of_month ha hb m z
      rw [if_pos x, if_pos x'] at hj
      by_cases hs : t = turnAt y a
      · exact .inl hs
      · refine absurd ?_ hj
        rw [decide_eq_false (show ¬ turnAt y a ≤ t by omega), decide_eq_false (show ¬ t - 1 < turnAt z b by omega)]
        simp
    · have x := turnAt_lt_of_month hb ha m y
      have x' := turnAt_lt_of_month hb ha m z
      rw [if_neg (by omega), if_neg (by omega)] at hj
      by_cases hs : t = turnAt y b
      · exact .inr hs
      · refine absurd ?_ hj
        rw [decide_eq_true (show t < turnAt y b by omega), decide_eq_true (show turnAt z a ≤ t - 1 by omega)]
        simp
/-- the moments at which some decree's clocks may jump -/
def Marks (p : Place) (t : Nat) : Prop := ∃ d ∈ p, t = d.from_ ∨ ∃ x a b, d.summer = some (x, a, b) ∧ (t = turnAt (yearOf (t / 1440)) a ∨ t = turnAt (yearOf (t / 1440)) b)
theorem jump_mark {p : Place} (h : OkP p) {t : Nat} (ht : 0 < t) (hj : offsetAt p (t - 1) ≠ offsetAt p t) : Marks p t := by
  obtain ⟨m1, m2, m3⟩ := inForce_mem h t
  by_cases e : (inForce p t).from_ = t
  · exact ⟨_, m1, .inl e.symm⟩
  · have e2 : inForce p (t - 1) = inForce p t := inForce_eq h m1 (by omega) fun d hd hu => m3 d hd (by omega)
    unfold offsetAt at hj
    rw [e2] at hj
    cases hs : (inForce p t).summer with
    | none =>
      rw [ahead_none hs, ahead_none hs] at hj
      exact absurd rfl hj
    | some q =>
      obtain ⟨x, a, b⟩ := q
      rw [ahead_some hs, ahead_some hs] at hj
      obtain ⟨_, _, oa, ob, hm⟩ := (inForce_ok h t).sum _ _ _ hs
      refine ⟨_, m1, .inr ⟨x, a, b, hs, summer_jump oa ob hm ht fun z => ?_⟩⟩
      rw [z] at hj
      exact hj rfl
theorem mem_turns {p : Place} (h : OkP p) (y t : Nat) : t ∈ Cl02.turns p y ↔ Marks p t ∧ t < MOMENTS ∧ yearOf (t / 1440) = y := by
  unfold Cl02.turns
  rw [List.mem_filter, List.mem_flatMap]
  rw [Bool.and_eq_true, decide_eq_true_eq, beq_iff_eq]
  constructor
  · rintro ⟨⟨d, hd, hm⟩, h1, h2⟩
    refine ⟨⟨d, hd, ?_⟩, h1, h2⟩
    rcases List.mem_cons.mp hm with z | z
    · exact .inl z
    · cases hs : d.summer with
      | none =>
        rw [hs] at z
        cases z
      | some q =>
        obtain ⟨x, a, b⟩ := q
        rw [hs] at z
        refine .inr ⟨x, a, b, rfl, ?_⟩
        rw [h2]
        have z' : t ∈ [turnAt y a, turnAt y b] := z
        simpa using z'
  · rintro ⟨⟨d, hd, hm⟩, h1, h2⟩
    refine ⟨⟨d, hd, ?_⟩, h1, h2⟩
    rcases hm with z | ⟨x, a, b, hs, z⟩
    · exact List.mem_cons.mpr (.inl z)
    · refine List.mem_cons.mpr (.inr ?_)
      rw [hs]
      rw [h2] at z
      show t ∈ [turnAt y a, turnAt y b]
      simpa using z
end PcM
/-! What is meant, the next change, the moments that show: by what they are, not by how they are sought. Plain Lean. -/
namespace PcM
open Cl01 (monthDays monthStart yearOf)
open Cl02 (Decree Place Turn MOMENTS turnAt inForce ahead offsetAt shown)
def Least (P : Nat → Prop) (t : Nat) : Prop := P t ∧ ∀ x, P x → t ≤ x
theorem least_ex {P : Nat → Prop} (h : ∃ t, P t) : ∃ t, Least P t := by
  obtain ⟨t, ht⟩ := h
  induction t using Nat.strongRecOn with
  | _ t ih =>
    by_cases e : ∃ x, x < t ∧ P x
    · obtain ⟨x, hx, px⟩ := e
      exact ih x hx px
    · exact ⟨t, ht, fun x px => Nat.le_of_not_lt fun z => e ⟨x, z, px⟩⟩
theorem Least.eq {P : Nat → Prop} {s t : Nat} (a : Least P s) (b : Least P t) : s = t := Nat.le_antisymm (a.2 t b.1) (b.2 s a.1)
theorem isMoment_iff (z : Int) : Cl02.isMoment z = true ↔ 0 ≤ z ∧ z < 52596000 := by
  unfold Cl02.isMoment
  rw [Bool.and_eq_true, decide_eq_true_eq, decide_eq_true_eq, moments_eq]
  constructor <;> (intro h; omega)
theorem isMoment_false {z : Int} (h : ¬ (0 ≤ z ∧ z < 52596000)) : Cl02.isMoment z = false := by
  cases e : Cl02.isMoment z with
  | false => rfl
  | true => exact absurd ((isMoment_iff z).mp e) h
theorem mem_offsets {p : Place} (h : OkP p) (u : Nat) : offsetAt p u ∈ Cl02.offsets p := by
  unfold Cl02.offsets
  refine List.mem_flatMap.mpr ⟨inForce p u, (inForce_mem h u).1, ?_⟩
  unfold offsetAt
  cases hs : (inForce p u).summer with
  | none =>
    rw [ahead_none hs]
    exact List.mem_singleton.mpr rfl
  | some q =>
    obtain ⟨x, a, b⟩ := q
    rw [ahead_some hs]
    show _ ∈ [(inForce p u).offset, (inForce p u).offset + (x : Int)]
    by_cases e : inSummer a b u = true
    · rw [if_pos e]
      simp
    · rw [if_neg e]
      simp
theorem mem_momentsOf {p : Place} (h : OkP p) (l : Int) (t : Nat) : t ∈ Cl02.momentsOf p l ↔ t < 52596000 ∧ shown p t = l := by
  unfold Cl02.momentsOf
  rw [mem_sorted, List.mem_filterMap]
  constructor
  · rintro ⟨z, hz, e⟩
    by_cases c : Cl02.isMoment (l - z) = true ∧ shown p (l - z).toNat = l
    · rw [if_pos c] at e
      have e := Option.some.inj e
      subst e
      have q := (isMoment_iff _).mp c.1
      exact ⟨by omega, c.2⟩
    · rw [if_neg c] at e
      cases e
  · rintro ⟨h1, h2⟩
    refine ⟨offsetAt p t, mem_offsets h t, ?_⟩
    have e : l - offsetAt p t = (t : Int) := by
      rw [← h2]
      unfold shown
      omega
    rw [e, if_pos]
    · rfl
    · exact ⟨(isMoment_iff _).mpr (by omega), h2⟩
theorem momentsOf_srt (p : Place) (l : Int) : (Cl02.momentsOf p l).Pairwise (· < ·) := sorted_srt _
theorem momentsOf_eq {p : Place} (h : OkP p) (l : Int) {m : List Nat} (hs : m.Pairwise (· < ·)) (hm : ∀ t, t ∈ m ↔ t < 52596000 ∧ shown p t = l) : Cl02.momentsOf p l = m :=
  srt_ext (momentsOf_srt p l) hs fun x => (mem_momentsOf h l x).trans (hm x).symm
theorem shown_lo {p : Place} (h : OkP p) (u : Nat) : (u : Int) - 840 ≤ shown p u ∧ shown p u ≤ (u : Int) + 960 := by
  have := offset_bounds h u
  unfold shown
  omega
/-- what's meant -/
theorem meant_hit {p : Place} (h : OkP p) {l : Int} {t : Nat} (ht : Least (fun t => t < 52596000 ∧ shown p t = l) t) : Cl02.meant p l = some (t, true) := by
  unfold Cl02.meant
  have e : (Cl02.momentsOf p l).head? = some t := by
    have hs := momentsOf_srt p l
    have hm := mem_momentsOf h l
    have ht1 := (hm t).mpr ht.1
    have ht2 := fun x hx => ht.2 x ((hm x).mp hx)
    generalize Cl02.momentsOf p l = m at hs ht1 ht2
    cases m with
    | nil => cases ht1
    | cons a m =>
      have h1 := ht2 a (List.mem_cons_self ..)
      rcases List.mem_cons.mp ht1 with z | z
      · rw [z]
        rfl
      · have := (List.pairwise_cons.mp hs).1 t z
        omega
  rw [e]
theorem meant_miss {p : Place} (h : OkP p) {l : Int} (hn : ∀ t, t < 52596000 → shown p t ≠ l) : Cl02.meant p l =
    ((Cl01.sorted (0 :: (Cl02.turns p ((if Cl02.isMoment l = true then Cl01.yearOf (l.toNat / 1440) else if l < 0 then 0 else 99) - 1) ++ (Cl02.turns p (if Cl02.isMoment l = true then Cl01.yearOf (l.toNat / 1440) else if l < 0 then 0 else 99) ++ Cl02.turns p ((if Cl02.isMoment l = true then Cl01.yearOf (l.toNat / 1440) else if l < 0 then 0 else 99) + 1))))).find? fun (t : Nat) => decide (l - Cl02.WIDE ≤ (t : Int)) && decide (l < shown p t)).map fun (t : Nat) => (t, false) := by
  have e : Cl02.momentsOf p l = [] := by
    have hm := mem_momentsOf h l
    generalize Cl02.momentsOf p l = m at hm
    cases m with
    | nil => rfl
    | cons a m =>
      have := (hm a).mp (List.mem_cons_self ..)
      exact absurd this.2 (hn a this.1)
  unfold Cl02.meant
  rw [e]
  rfl
theorem near_year {p : Place} (h : OkP p) {l : Int} {t : Nat} (h1 : (t : Int) ≤ l + 840) (h2 : l < (t : Int) + 960) (h3 : t < 52596000) (y : Nat) (hy : y = if Cl02.isMoment l = true then Cl01.yearOf (l.toNat / 1440) else if l < 0 then 0 else 99) :
    yearOf (t / 1440) = y - 1 ∨ yearOf (t / 1440) = y ∨ yearOf (t / 1440) = y + 1 := by
  have up : yearOf (t / 1440) < 100 := yearOf_lt_100 (by omega)
  have q1 := yearOf_ge (t / 1440)
  have q2 := yearOf_lt (t / 1440)
  generalize yearOf (t / 1440) = z at *
  by_cases c : Cl02.isMoment l = true
  · rw [if_pos c] at hy
    have c' := (isMoment_iff l).mp c
    obtain ⟨n, rfl⟩ : ∃ n : Nat, l = (n : Int) := ⟨l.toNat, by omega⟩
    have e : ((n : Int)).toNat = n := rfl
    rw [e] at hy
    have r1 := yearOf_ge (n / 1440)
    have r2 := yearOf_lt (n / 1440)
    rw [← hy] at r1 r2
    rw [monthStart_one] at q1 q2 r1 r2
    have a1 : t / 1440 ≤ n / 1440 + 1 := by omega
    have a2 : n / 1440 ≤ t / 1440 + 1 := by omega
    omega
  · rw [if_neg c] at hy
    by_cases d : l < 0
    · rw [if_pos d] at hy
      subst hy
      rw [monthStart_one] at q1 q2
      omega
    · rw [if_neg d] at hy
      subst hy
      have c' : ¬ (0 ≤ l ∧ l < 52596000) := fun z => c ((isMoment_iff l).mpr z)
      rw [monthStart_one] at q1 q2
      omega
theorem meant_jump {p : Place} (h : OkP p) {l : Int} {t : Nat} (hn : ∀ t, t < 52596000 → shown p t ≠ l) (ht : Least (fun t => t < 52596000 ∧ l < shown p t) t) : Cl02.meant p l = some (t, false) := by
  rw [meant_miss h hn]
  generalize hy : (if Cl02.isMoment l = true then Cl01.yearOf (l.toNat / 1440) else if l < 0 then 0 else 99) = y
  have b := shown_lo h t
  have ht1 := ht.1
  rw [find_least (sorted_srt _) (t := t)]
  · rfl
  · rw [mem_sorted]
    by_cases e : t = 0
    · rw [e]
      exact List.mem_cons_self ..
    · have b' := shown_lo h (t - 1)
      have lo : shown p (t - 1) < l := by
        rcases Int.lt_trichotomy (shown p (t - 1)) l with z | z | z
        · exact z
        · exact absurd z (hn _ (by omega))
        · have := ht.2 (t - 1) ⟨by omega, z⟩
          omega
      have mk : Marks p t := jump_mark h (by omega) fun z => by
        unfold shown at lo ht1
        omega
      refine List.mem_cons_of_mem _ ?_
      have near := near_year h (l := l) (t := t) (by omega) (by omega) ht1.1 y hy.symm
      rw [List.mem_append, List.mem_append, mem_turns h, mem_turns h, mem_turns h]
      rcases near with z | z | z
      · exact .inl ⟨mk, ht1.1, z⟩
      · exact .inr (.inl ⟨mk, ht1.1, z⟩)
      · exact .inr (.inr ⟨mk, ht1.1, z⟩)
  · rw [Bool.and_eq_true, decide_eq_true_eq, decide_eq_true_eq]
    refine ⟨?_, ht1.2⟩
    show l - 1000 ≤ (t : Int)
    omega
  · intro x hx hq
    rw [Bool.and_eq_true, decide_eq_true_eq, decide_eq_true_eq] at hq
    refine ht.2 x ⟨?_, hq.2⟩
    rw [mem_sorted] at hx
    rcases List.mem_cons.mp hx with z | z
    · omega
    · rw [List.mem_append, List.mem_append, mem_turns h, mem_turns h, mem_turns h] at z
      rcases z with z | z | z <;> exact z.2.1
theorem meant_none {p : Place} (h : OkP p) {l : Int} (hn : ∀ t, t < 52596000 → shown p t < l) : Cl02.meant p l = none := by
  rw [meant_miss h fun t ht => Int.ne_of_lt (hn t ht)]
  rw [List.find?_eq_none.mpr]
  · rfl
  · intro x hx hq
    rw [Bool.and_eq_true, decide_eq_true_eq, decide_eq_true_eq] at hq
    rw [mem_sorted] at hx
    have hx' : x < 52596000 := by
      rcases List.mem_cons.mp hx with z | z
      · omega
      · rw [List.mem_append, List.mem_append, mem_turns h, mem_turns h, mem_turns h] at z
        rcases z with z | z | z <;> exact z.2.1
    have := hn x hx'
    omega
/-- the next change -/
theorem findSome_range {α : Type} (f : Nat → Option α) (v : α) : ∀ (n k : Nat), k < n → (∀ i, i < k → f i = none) → f k = some v → (List.range n).findSome? f = some v := by
  intro n
  induction n with
  | zero =>
    intro k hk
    omega
  | succ n ih =>
    intro k hk h1 h2
    rw [List.range_succ, List.findSome?_append]
    by_cases e : k = n
    · subst e
      have : (List.range k).findSome? f = none := List.findSome?_eq_none_iff.mpr fun x hx => h1 x (List.mem_range.mp hx)
      rw [this, List.findSome?_cons, h2]
      rfl
    · rw [ih k (by omega) h1 h2]
      rfl
def Change (p : Place) (u t : Nat) : Prop := u < t ∧ t < 52596000 ∧ offsetAt p (t - 1) ≠ offsetAt p t
theorem nextChange_some {p : Place} (h : OkP p) {u t : Nat} (hu : u < 52596000) (ht : Least (Change p u) t) : Cl02.nextChange p u = some (t, offsetAt p (t - 1), offsetAt p t) := by
  unfold Cl02.nextChange
  have c := ht.1
  have y1 : yearOf (u / 1440) ≤ yearOf (t / 1440) := yearOf_mono (by have := c.1; omega)
  have y2 : yearOf (t / 1440) < 100 := yearOf_lt_100 (by have := c.2.1; omega)
  refine findSome_range _ _ _ (yearOf (t / 1440) - yearOf (u / 1440)) (by omega) (fun i hi => ?_) ?_
  · skip
    rw [List.find?_eq_none.mpr]
    · rfl
    · intro x hx hq
      rw [Bool.and_eq_true, decide_eq_true_eq, bne_iff_ne] at hq
      rw [mem_sorted, mem_turns h] at hx
      have q1 := ht.2 x ⟨hq.1, hx.2.1, hq.2⟩
      have q2 := yearOf_mono (show t / 1440 ≤ x / 1440 by omega)
      rw [hx.2.2] at q2
      omega
  · skip
    rw [find_least (sorted_srt _) (t := t)]
    · rfl
    · rw [mem_sorted, mem_turns h]
      exact ⟨jump_mark h (by have := c.1; omega) c.2.2, c.2.1, by omega⟩
    · rw [Bool.and_eq_true, decide_eq_true_eq, bne_iff_ne]
      exact ⟨c.1, c.2.2⟩
    · intro x hx hq
      rw [Bool.and_eq_true, decide_eq_true_eq, bne_iff_ne] at hq
      rw [mem_sorted, mem_turns h] at hx
      exact ht.2 x ⟨hq.1, hx.2.1, hq.2⟩
theorem nextChange_none {p : Place} (h : OkP p) {u : Nat} (hn : ∀ t, ¬ Change p u t) : Cl02.nextChange p u = none := by
  unfold Cl02.nextChange
  refine List.findSome?_eq_none_iff.mpr fun k _ => ?_
  skip
  rw [List.find?_eq_none.mpr]
  · rfl
  · intro x hx hq
    rw [Bool.and_eq_true, decide_eq_true_eq, bne_iff_ne] at hq
    rw [mem_sorted, mem_turns h] at hx
    exact hn x ⟨hq.1, hx.2.1, hq.2⟩
end PcM
/-! Decrees put and taken, as lists. Plain Lean. -/
namespace PcM
open Cl02 (Decree Place Turn)
/-- lists that rise strictly by a key and have the same members are equal -/
theorem kext {α : Type} (key : α → Nat) : ∀ {l m : List α}, l.Pairwise (fun a b => key a < key b) → m.Pairwise (fun a b => key a < key b) → (∀ x, x ∈ l ↔ x ∈ m) → l = m
  | [], [], _, _, _ => rfl
  | [], b :: m, _, _, h => absurd ((h b).mpr (List.mem_cons_self ..)) (List.not_mem_nil)
  | a :: l, [], _, _, h => absurd ((h a).mp (List.mem_cons_self ..)) (List.not_mem_nil)
  | a :: l, b :: m, hl, hm, h => by
    obtain ⟨l1, l2⟩ := List.pairwise_cons.mp hl
    obtain ⟨m1, m2⟩ := List.pairwise_cons.mp hm
    have e : a = b := by
      rcases List.mem_cons.mp ((h a).mp (List.mem_cons_self ..)) with z | z
      · exact z
      · rcases List.mem_cons.mp ((h b).mpr (List.mem_cons_self ..)) with y | y
        · exact y.symm
        · have := l1 b y
          have := m1 a z
          omega
    subst e
    refine congrArg (a :: ·) (kext key l2 m2 fun x => ⟨fun hx => ?_, fun hx => ?_⟩)
    · rcases List.mem_cons.mp ((h x).mp (List.mem_cons_of_mem _ hx)) with z | z
      · subst z
        have := l1 x hx
        omega
      · exact z
    · rcases List.mem_cons.mp ((h x).mpr (List.mem_cons_of_mem _ hx)) with z | z
      · subst z
        have := m1 x hx
        omega
      · exact z
theorem mem_put (d x : Decree) : ∀ {p : Place}, p.Pairwise (fun a b => a.from_ < b.from_) → (x ∈ Cl02.put d p ↔ x = d ∨ (x ∈ p ∧ x.from_ ≠ d.from_))
  | [], _ => by simp [Cl02.put]
  | e :: l, h => by
    obtain ⟨h1, h2⟩ := (List.pairwise_cons).mp h
    unfold Cl02.put
    split
    · rename_i q
      rw [List.mem_cons, List.mem_cons]
      refine or_congr Iff.rfl ⟨fun hx => ⟨.inr hx, ?_⟩, fun hx => ?_⟩
      · have := h1 x hx
        omega
      · rcases hx.1 with z | z
        · subst z
          exact absurd q hx.2
        · exact z
    · rename_i q
      split
      · rename_i r
        rw [List.mem_cons, List.mem_cons]
        refine or_congr Iff.rfl ⟨fun hx => ⟨hx, ?_⟩, fun hx => hx.1⟩
        rcases hx with z | z
        · subst z
          exact q
        · have := h1 x z
          omega
      · rename_i r
        rw [List.mem_cons, mem_put d x h2, List.mem_cons]
        constructor
        · rintro (z | z | z)
          · subst z
            exact .inr ⟨.inl rfl, q⟩
          · exact .inl z
          · exact .inr ⟨.inr z.1, z.2⟩
        · rintro (z | ⟨z | z, y⟩)
          · exact .inr (.inl z)
          · exact .inl z
          · exact .inr (.inr ⟨z, y⟩)
theorem put_srt (d : Decree) : ∀ {p : Place}, p.Pairwise (fun a b => a.from_ < b.from_) → (Cl02.put d p).Pairwise (fun a b => a.from_ < b.from_)
  | [], _ => by simp [Cl02.put]
  | e :: l, h => by
    obtain ⟨h1, h2⟩ := (List.pairwise_cons).mp h
    unfold Cl02.put
    split
    · rename_i q
      refine List.pairwise_cons.mpr ⟨fun x hx => ?_, h2⟩
      have := h1 x hx
      omega
    · rename_i q
      split
      · rename_i r
        refine List.pairwise_cons.mpr ⟨fun x hx => ?_, h⟩
        rcases List.mem_cons.mp hx with z | z
        · subst z
          exact r
        · have := h1 x z
          omega
      · rename_i r
        refine List.pairwise_cons.mpr ⟨fun x hx => ?_, put_srt d h2⟩
        rcases (mem_put d x h2).mp hx with z | z
        · subst z
          omega
        · exact h1 x z.1
theorem any_from {p : Place} {m : Nat} : p.any (fun e => e.from_ == m) = true ↔ ∃ e ∈ p, e.from_ = m := by
  rw [List.any_eq_true]
  constructor
  · rintro ⟨e, he, h⟩
    exact ⟨e, he, eq_of_beq h⟩
  · rintro ⟨e, he, h⟩
    exact ⟨e, he, beq_iff_eq.mpr h⟩
theorem put_len (d : Decree) : ∀ {p : Place}, p.Pairwise (fun a b => a.from_ < b.from_) → (Cl02.put d p).length = if p.any (fun e => e.from_ == d.from_) = true then p.length else p.length + 1
  | [], _ => rfl
  | e :: l, h => by
    obtain ⟨h1, h2⟩ := (List.pairwise_cons).mp h
    unfold Cl02.put
    split
    · rename_i q
      rw [if_pos (any_from.mpr ⟨e, List.mem_cons_self .., q⟩)]
      rfl
    · rename_i q
      split
      · rename_i r
        rw [if_neg]
        · rfl
        · intro z
          obtain ⟨x, hx, e1⟩ := any_from.mp z
          rcases List.mem_cons.mp hx with y | y
          · subst y
            exact q e1
          · have := h1 x y
            omega
      · rename_i r
        have e2 : (e :: l).any (fun e => e.from_ == d.from_) = l.any (fun e => e.from_ == d.from_) := by
          rw [List.any_cons, beq_eq_false_iff_ne.mpr q, Bool.false_or]
        rw [e2, List.length_cons, put_len d h2]
        split <;> rfl
theorem put_is (d : Decree) {p : Place} (h : p.Pairwise (fun a b => a.from_ < b.from_)) : ((p.filter (fun e => e.from_ != d.from_)) ++ [d]).mergeSort (fun a b => decide (a.from_ ≤ b.from_)) = Cl02.put d p := by
  have perm := List.mergeSort_perm ((p.filter (fun e => e.from_ != d.from_)) ++ [d]) (fun a b => decide (a.from_ ≤ b.from_))
  have srt : ((p.filter (fun e => e.from_ != d.from_)) ++ [d]).mergeSort (fun a b => decide (a.from_ ≤ b.from_)) |>.Pairwise (fun a b => decide (a.from_ ≤ b.from_) = true) := List.pairwise_mergeSort (fun a b c h1 h2 => decide_eq_true (by
    have := of_decide_eq_true h1
    have := of_decide_eq_true h2
    omega)) (fun a b => by
    rcases Nat.le_total a.from_ b.from_ with z | z
    · rw [decide_eq_true z, Bool.true_or]
    · rw [decide_eq_true z, Bool.or_true]) _
  have ne : ((p.filter (fun e => e.from_ != d.from_)) ++ [d]).Pairwise (fun a b => a.from_ ≠ b.from_) := by
    refine List.pairwise_append.mpr ⟨(h.filter _).imp fun {a b} z => Nat.ne_of_lt z, List.pairwise_singleton _ _, fun a ha b hb => ?_⟩
    rw [List.mem_singleton.mp hb]
    exact bne_iff_ne.mp (List.mem_filter.mp ha).2
  have ne' := perm.symm.pairwise ne (fun {a b} z => fun y => z y.symm)
  refine kext Decree.from_ ?_ (put_srt d h) fun x => ?_
  · refine List.Pairwise.imp₂ (fun {a b} z y => ?_) srt ne'
    have := of_decide_eq_true z
    omega
  · rw [List.mem_mergeSort, mem_put d x h, List.mem_append, List.mem_filter, List.mem_singleton, bne_iff_ne]
    constructor
    · rintro (z | z)
      · exact .inr z
      · exact .inl z
    · rintro (z | z)
      · exact .inr z
      · exact .inl z
theorem put_first {d : Decree} {p : Place} (h : ∃ e r, p = e :: r ∧ e.from_ = 0) : ∃ e r, Cl02.put d p = e :: r ∧ e.from_ = 0 := by
  obtain ⟨e, r, rfl, e0⟩ := h
  unfold Cl02.put
  split
  · rename_i q
    exact ⟨d, r, rfl, by omega⟩
  · rename_i q
    rw [if_neg (by omega)]
    exact ⟨e, _, rfl, e0⟩
theorem put_ok {d : Decree} {p : Place} (h : OkP p) (hd : OkD d) (few : p.length < 8 ∨ p.any (fun e => e.from_ == d.from_) = true) : OkP (Cl02.put d p) := by
  refine ⟨fun x hx => ?_, put_srt d h.srt, put_first h.first, ?_⟩
  · rcases (mem_put d x h.srt).mp hx with z | z
    · rw [z]
      exact hd
    · exact h.ok x z.1
  · rw [put_len d h.srt]
    have := h.few
    split <;> rename_i q <;> rcases few with f | f
    · omega
    · omega
    · omega
    · exact absurd f q
theorem drop_ok {p : Place} {m : Nat} (h : OkP p) (hm : m ≠ 0) : OkP (p.filter (fun e => e.from_ != m)) := by
  refine ⟨fun x hx => h.ok x (List.mem_filter.mp hx).1, h.srt.filter _, ?_, Nat.le_trans (List.length_filter_le _ _) h.few⟩
  obtain ⟨e, r, rfl, e0⟩ := h.first
  refine ⟨e, r.filter (fun e => e.from_ != m), ?_, e0⟩
  rw [List.filter_cons, if_pos]
  exact bne_iff_ne.2 (by omega)
theorem drop_len {p : Place} {m : Nat} (h : p.Pairwise (fun a b => a.from_ < b.from_)) (ha : p.any (fun e => e.from_ == m) = true) : (p.filter (fun e => e.from_ != m)).length + 1 = p.length := by
  induction p with
  | nil => cases ha
  | cons e l ih =>
    obtain ⟨h1, h2⟩ := (List.pairwise_cons).mp h
    by_cases q : e.from_ = m
    · have e1 : l.filter (fun e => e.from_ != m) = l := List.filter_eq_self.mpr fun x hx => bne_iff_ne.mpr (by
        have := h1 x hx
        omega)
      rw [List.filter_cons, if_neg (by
        rw [bne_iff_ne]
        exact fun z => z q), e1, List.length_cons]
    · rw [List.any_cons, beq_eq_false_iff_ne.mpr q, Bool.false_or] at ha
      rw [List.filter_cons, if_pos (bne_iff_ne.mpr q), List.length_cons, ih h2 ha, List.length_cons]
end PcM
/-! What is handed in, call by call; what stands keeps its bounds. Plain Lean. -/
namespace PcM
open Cl02 (Decree Place Turn State Call)
abbrev nInts (ns : List Nat) : List Int := ns.map fun (n : Nat) => (n : Int)
/-- a call as it is written, and what it is -/
inductive Cd : List (List Int) → Call → Prop
  | place (z : Int) : Cd [[0, z]] (.place z)
  | decree (p m : Nat) (z : Int) : Cd [[1, (p : Int), (m : Int), z]] (.decree p m z)
  | summer (p m : Nat) (z : Int) (x : Nat) (a b : List Nat) (ha : a.length ≤ 8) (hb : b.length ≤ 8) : Cd [[2, (p : Int), (m : Int), z, (x : Int)], nInts a, nInts b] (.summer p m z x a b)
  | drop (p m : Nat) : Cd [[3, (p : Int), (m : Int)]] (.drop p m)
  | offset (p u : Nat) : Cd [[4, (p : Int), (u : Int)]] (.offset p u)
  | shows (p u : Nat) : Cd [[5, (p : Int), (u : Int)]] (.shows p u)
  | moments (p : Nat) (l : Int) : Cd [[6, (p : Int), l]] (.moments p l)
  | meant (p : Nat) (l : Int) : Cd [[7, (p : Int), l]] (.meant p l)
  | change (p u : Nat) : Cd [[8, (p : Int), (u : Int)]] (.change p u)
  | keep (p : Nat) (l : Int) : Cd [[9, (p : Int), l]] (.keep p l)
  | when (k : Nat) : Cd [[10, (k : Int)]] (.when k)
  | there (k p : Nat) : Cd [[11, (k : Int), (p : Int)]] (.there k p)
  | ahead (u : Nat) : Cd [[12, (u : Int)]] (.ahead u)
theorem within_nat {z h : Int} (w : NeutralIO.within z 0 h = true) : ∃ n : Nat, z = (n : Int) := by
  have w' : (decide (0 ≤ z) && decide (z ≤ h)) = true := w
  rw [Bool.and_eq_true] at w'
  have := of_decide_eq_true w'.1
  exact ⟨z.toNat, by omega⟩
theorem all_nats : ∀ {l : List Int}, (l.all fun (z : Int) => NeutralIO.within z 0 9999) = true → ∃ a : List Nat, l = nInts a
  | [], _ => ⟨[], rfl⟩
  | z :: l, h => by
    simp only [Bool.and_eq_true, List.all_cons] at h
    obtain ⟨n, rfl⟩ := within_nat h.1
    obtain ⟨a, rfl⟩ := all_nats h.2
    exact ⟨n :: a, rfl⟩
theorem turn_nats {l : List Int} (h : Cl02Neutral.turn l = true) : ∃ a : List Nat, a.length ≤ 8 ∧ l = nInts a := by
  have h' : (decide (l.length ≤ 8) && l.all fun (z : Int) => NeutralIO.within z 0 9999) = true := h
  rw [Bool.and_eq_true] at h'
  obtain ⟨a, rfl⟩ := all_nats h'.2
  have := of_decide_eq_true h'.1
  rw [List.length_map] at this
  exact ⟨a, this, rfl⟩
theorem cd_of {c : List (List Int)} (h : Cl02Neutral.asked1 c = true) : ∃ call, Cd c call := by
  unfold Cl02Neutral.asked1 at h
  split at h
  · exact ⟨_, .place _⟩
  · simp only [Bool.and_eq_true] at h
    obtain ⟨p, rfl⟩ := within_nat h.1
    obtain ⟨m, rfl⟩ := within_nat h.2.1
    exact ⟨_, .decree p m _⟩
  · simp only [Bool.and_eq_true] at h
    obtain ⟨p, rfl⟩ := within_nat h.1
    obtain ⟨m, rfl⟩ := within_nat h.2.1
    obtain ⟨x, rfl⟩ := within_nat h.2.2.2.1
    obtain ⟨a, ha, rfl⟩ := turn_nats h.2.2.2.2.1
    obtain ⟨b, hb, rfl⟩ := turn_nats h.2.2.2.2.2
    exact ⟨_, .summer p m _ x a b ha hb⟩
  · simp only [Bool.and_eq_true] at h
    obtain ⟨p, rfl⟩ := within_nat h.1
    obtain ⟨m, rfl⟩ := within_nat h.2
    exact ⟨_, .drop p m⟩
  · simp only [Bool.and_eq_true] at h
    obtain ⟨p, rfl⟩ := within_nat h.1
    obtain ⟨m, rfl⟩ := within_nat h.2
    exact ⟨_, .offset p m⟩
  · simp only [Bool.and_eq_true] at h
    obtain ⟨p, rfl⟩ := within_nat h.1
    obtain ⟨m, rfl⟩ := within_nat h.2
    exact ⟨_, .shows p m⟩
  · simp only [Bool.and_eq_true] at h
    obtain ⟨p, rfl⟩ := within_nat h.1
    exact ⟨_, .moments p _⟩
  · simp only [Bool.and_eq_true] at h
    obtain ⟨p, rfl⟩ := within_nat h.1
    exact ⟨_, .meant p _⟩
  · simp only [Bool.and_eq_true] at h
    obtain ⟨p, rfl⟩ := within_nat h.1
    obtain ⟨m, rfl⟩ := within_nat h.2
    exact ⟨_, .change p m⟩
  · simp only [Bool.and_eq_true] at h
    obtain ⟨p, rfl⟩ := within_nat h.1
    exact ⟨_, .keep p _⟩
  · obtain ⟨p, rfl⟩ := within_nat h
    exact ⟨_, .when p⟩
  · simp only [Bool.and_eq_true] at h
    obtain ⟨p, rfl⟩ := within_nat h.1
    obtain ⟨m, rfl⟩ := within_nat h.2
    exact ⟨_, .there p m⟩
  · obtain ⟨p, rfl⟩ := within_nat h
    exact ⟨_, .ahead p⟩
  · cases h
theorem nats_ints : ∀ a : List Nat, Cl02Neutral.nats (nInts a) = a
  | [] => rfl
  | n :: a => congrArg (n :: ·) (nats_ints a)
theorem callOf_cd {c : List (List Int)} {x : Call} (h : Cd c x) : Cl02Neutral.callOf c = some x := by
  cases h with
  | summer p m z x a b ha hb =>
    show some (Call.summer p m z x (Cl02Neutral.nats (nInts a)) (Cl02Neutral.nats (nInts b))) = _
    rw [nats_ints, nats_ints]
  | _ => rfl
theorem step_cd {c : List (List Int)} {x : Call} (h : Cd c x) (s : State) : Cl02Neutral.step s c = Cl02.step s x := by
  unfold Cl02Neutral.step
  rw [callOf_cd h]
theorem whole_id (c : List (List Int)) : PyCl02.whole c = c := by
  unfold PyCl02.whole
  split <;> rfl
theorem map_whole : ∀ cs : List (List (List Int)), cs.map PyCl02.whole = cs
  | [] => rfl
  | c :: cs => by rw [List.map_cons, whole_id, map_whole cs]
/-- what is told of a line, call by call -/
def runs (s : State) : List Call → List (List Int)
  | [] => []
  | x :: xs => (Cl02.step s x).2 :: runs (Cl02.step s x).1 xs
inductive Cds : List (List (List Int)) → List Call → Prop
  | nil : Cds [] []
  | cons {c : List (List Int)} {x : Call} {cs : List (List (List Int))} {xs : List Call} (h : Cd c x) (t : Cds cs xs) : Cds (c :: cs) (x :: xs)
theorem cds_of : ∀ {cs : List (List (List Int))}, cs.all Cl02Neutral.asked1 = true → ∃ xs, Cds cs xs
  | [], _ => ⟨[], .nil⟩
  | c :: cs, h => by
    simp only [Bool.and_eq_true, List.all_cons] at h
    obtain ⟨x, hx⟩ := cd_of h.1
    obtain ⟨xs, hxs⟩ := cds_of h.2
    exact ⟨x :: xs, .cons hx hxs⟩
theorem Cds.len {cs : List (List (List Int))} {xs : List Call} (h : Cds cs xs) : cs.length = xs.length := by
  induction h with
  | nil => rfl
  | cons _ _ ih => simp only [List.length_cons, ih]
theorem played_runs {cs : List (List (List Int))} {xs : List Call} (h : Cds cs xs) : ∀ s : State, PyFlat.played Cl02Neutral.step s cs = runs s xs := by
  induction h with
  | nil => exact fun _ => rfl
  | cons h t ih =>
    intro s
    show (Cl02Neutral.step s _).2 :: PyFlat.played Cl02Neutral.step (Cl02Neutral.step s _).1 _ = _
    rw [step_cd h, ih]
    rfl
/-- what is handed in: calls of the document, one behind another -/
theorem asked_line {ns : List Int} (h : PyCl02.answers_asked ns = true) : ∃ cs xs, Cds cs xs ∧ ns = PyFlat.put cs ∧ xs.length ≤ 60 ∧ PyCl02.answers ns = PyFlat.told (runs Cl02.init xs) := by
  unfold PyCl02.answers_asked at h
  cases e : PyFlat.calls PyCl02.shape ns.length ns with
  | none =>
    rw [e] at h
    cases h
  | some raw =>
    rw [e] at h
    simp only [Bool.and_eq_true, map_whole] at h
    have ha : (decide (1 ≤ raw.length) && (decide (raw.length ≤ 60) && raw.all Cl02Neutral.asked1)) = true := h.1.2
    simp only [Bool.and_eq_true] at ha
    obtain ⟨xs, hxs⟩ := cds_of ha.2.2
    refine ⟨raw, xs, hxs, (PyFlat.put_calls _ _ _ e).1, ?_, ?_⟩
    · rw [← hxs.len]
      exact of_decide_eq_true ha.2.1
    · unfold PyCl02.answers PyCl02.calls
      rw [e]
      show PyFlat.told (PyFlat.played Cl02Neutral.step Cl02Neutral.start (raw.map PyCl02.whole)) = _
      rw [map_whole, played_runs hxs]
      rfl
/-! ### what stands keeps its bounds -/
structure OkS (s : State) : Prop where
  places : ∀ p ∈ s.places, OkP p
  room : s.places.length ≤ 6
  kept : ∀ k ∈ s.kept, k.place < s.places.length
  few : s.kept.length ≤ 20
theorem ok_init : OkS Cl02.init := ⟨fun p h => absurd h (List.not_mem_nil), Nat.zero_le _, fun p h => absurd h (List.not_mem_nil), Nat.zero_le _⟩
theorem isOffset_iff {z : Int} : Cl02.isOffset z = true ↔ -840 ≤ z ∧ z ≤ 840 := by
  unfold Cl02.isOffset
  rw [Bool.and_eq_true, decide_eq_true_iff, decide_eq_true_iff]
theorem turnOf_ok {l : List Nat} {t : Turn} (h : Cl02.turnOf l = some t) : OkT t := by
  unfold Cl02.turnOf at h
  split at h
  · split at h
    · rename_i b k w m t' c
      obtain ⟨c1, c2, c3, c4, c5, c6, c7, c8⟩ := c
      rw [← Option.some.inj h]
      exact ⟨c2, c3, by show w - 1 < 7; omega, c6, c7, c8⟩
    · cases h
  · cases h
theorem ok_first {z : Int} (h : Cl02.isOffset z = true) : OkP [⟨0, z, none⟩] := by
  have := isOffset_iff.mp h
  refine ⟨fun d hd => ?_, List.pairwise_singleton _ _, ⟨_, [], rfl, rfl⟩, Nat.le_of_ble_eq_true rfl⟩
  rw [List.mem_singleton.mp hd]
  exact ⟨show 0 < 52596000 by decide, this.1, this.2, fun x a b e => by cases e⟩
theorem set_all {α : Type} {P : α → Prop} {l : List α} {i : Nat} {x : α} (h : ∀ y ∈ l, P y) (hx : P x) : ∀ y ∈ l.set i x, P y := fun y hy => by
  rcases List.mem_or_eq_of_mem_set hy with z | z
  · exact h y z
  · rw [z]
    exact hx
theorem set_ok {s : State} (h : OkS s) {i : Nat} {p : Place} (hp : OkP p) : OkS { s with places := s.places.set i p } := by
  refine ⟨set_all h.places hp, ?_, fun k hk => ?_, h.few⟩
  · show (s.places.set i p).length ≤ 6
    rw [List.length_set]
    exact h.room
  · show k.place < (s.places.set i p).length
    rw [List.length_set]
    exact h.kept k hk
theorem placeOf_ok {s : State} {i : Nat} {f : Place → State × Cl02.Ans} (h : OkS s) (hf : ∀ p, s.places[i]? = some p → OkP p → OkS (f p).1) : OkS (Cl02.placeOf s i f).1 := by
  unfold Cl02.placeOf
  cases e : s.places[i]? with
  | none => exact h
  | some p => exact hf p e (h.places p (List.mem_of_getElem? e))
/-- a decree told that is one -/
theorem told_ok {m : Nat} {z : Int} {o : Option (Nat × Turn × Turn)} (h : ¬ (Cl02.MOMENTS ≤ m ∨ Cl02.isOffset z = false)) (ho : ∀ x a b, o = some (x, a, b) → 1 ≤ x ∧ x ≤ 120 ∧ OkT a ∧ OkT b ∧ a.month ≠ b.month) : OkD ⟨m, z, o⟩ := by
  have h1 : m < Cl02.MOMENTS := Nat.lt_of_not_le fun q => h (.inl q)
  have h2 : Cl02.isOffset z = true := by
    cases e : Cl02.isOffset z with
    | true => rfl
    | false => exact absurd (.inr e) h
  have h3 := isOffset_iff.mp h2
  exact ⟨h1, h3.1, h3.2, ho⟩
theorem decreed_ok {s : State} {i m : Nat} {z : Int} {o : Option (Nat × Turn × Turn)} (h : OkS s) (ho : ∀ x a b, o = some (x, a, b) → 1 ≤ x ∧ x ≤ 120 ∧ OkT a ∧ OkT b ∧ a.month ≠ b.month) : OkS (Cl02.decreed s i ⟨m, z, o⟩).1 := by
  unfold Cl02.decreed
  refine placeOf_ok h fun p e hp => ?_
  split
  · exact h
  · rename_i q
    split
    · exact h
    · rename_i q2
      refine set_ok h (put_ok hp (told_ok q ho) ?_)
      by_cases h8 : p.length < 8
      · exact .inl h8
      · refine .inr ?_
        cases ea : p.any (fun (e : Decree) => e.from_ == m) with
        | true => rfl
        | false => exact absurd ⟨Nat.le_of_not_lt h8, ea⟩ q2
theorem sum_ok {x : Nat} {a b : Turn} (ha : OkT a) (hb : OkT b) (h : ¬ (x = 0 ∨ 120 < x ∨ a.month = b.month)) : ∀ x' a' b', some (x, a, b) = some (x', a', b') → 1 ≤ x' ∧ x' ≤ 120 ∧ OkT a' ∧ OkT b' ∧ a'.month ≠ b'.month := by
  intro x' a' b' e
  cases e
  refine ⟨by omega, by omega, ha, hb, fun z => h (.inr (.inr z))⟩
theorem step_ok {s : State} (h : OkS s) (c : Call) : OkS (Cl02.step s c).1 := by
  unfold Cl02.step
  cases c with
  | place z =>
    show OkS (if Cl02.isOffset z = false then (s, [-1]) else if Cl02.PLACES ≤ s.places.length then (s, [-5]) else ({ s with places := s.places ++ [[⟨0, z, none⟩]] }, [(s.places.length : Int)])).1
    split
    · exact h
    · rename_i q
      split
      · exact h
      · rename_i q2
        have q3 : ¬ 6 ≤ s.places.length := q2
        refine ⟨fun p hp => ?_, ?_, fun k hk => ?_, h.few⟩
        · rcases List.mem_append.mp hp with y | y
          · exact h.places p y
          · rw [List.mem_singleton.mp y]
            refine ok_first ?_
            cases e : Cl02.isOffset z with
            | true => rfl
            | false => exact absurd e q
        · show (s.places ++ _).length ≤ 6
          simp only [List.length_singleton, List.length_append]
          omega
        · show k.place < (s.places ++ _).length
          simp only [List.length_singleton, List.length_append]
          have := h.kept k hk
          omega
  | decree p m z => exact decreed_ok h fun _ _ _ e => by cases e
  | summer p m z x a b =>
    show OkS (match Cl02.turnOf a, Cl02.turnOf b with
      | some a, some b => if x = 0 ∨ 120 < x ∨ a.month = b.month then Cl02.placeOf s p fun _ => (s, [-1]) else Cl02.decreed s p ⟨m, z, some (x, a, b)⟩
      | _, _ => Cl02.placeOf s p fun _ => (s, [-1])).1
    split
    · rename_i a' b' ea eb
      split
      · exact placeOf_ok h fun _ _ _ => h
      · rename_i q
        exact decreed_ok h (sum_ok (turnOf_ok ea) (turnOf_ok eb) q)
    · exact placeOf_ok h fun _ _ _ => h
  | drop p m =>
    refine placeOf_ok h fun x e hx => ?_
    show OkS (if m = 0 ∨ x.any (fun (d : Decree) => d.from_ == m) = false then (s, [-4]) else ({ s with places := s.places.set p (x.filter fun (d : Decree) => d.from_ != m) }, [(x.length : Int) - 1])).1
    split
    · exact h
    · rename_i q
      exact set_ok h (drop_ok hx fun z => q (.inl z))
  | offset p u => exact placeOf_ok h fun _ _ _ => h
  | shows p u => exact placeOf_ok h fun _ _ _ => h
  | moments p l => exact placeOf_ok h fun _ _ _ => h
  | meant p l => exact placeOf_ok h fun _ _ _ => h
  | change p u => exact placeOf_ok h fun _ _ _ => h
  | keep p l =>
    show OkS (Cl02.placeOf s p fun _ => if Cl02.KEPT ≤ s.kept.length then (s, [-5]) else ({ s with kept := s.kept ++ [⟨p, l⟩] }, [(s.kept.length : Int)])).1
    refine placeOf_ok h fun x e hx => ?_
    split
    · exact h
    · rename_i q
      have q' : ¬ 20 ≤ s.kept.length := q
      refine ⟨h.places, h.room, fun k hk => ?_, ?_⟩
      · rcases List.mem_append.mp hk with y | y
        · exact h.kept k y
        · rw [List.mem_singleton.mp y]
          obtain ⟨le, _⟩ := List.getElem?_eq_some_iff.mp e
          exact le
      · show (s.kept ++ _).length ≤ 20
        simp only [List.length_singleton, List.length_append]
        omega
  | when k => exact h
  | there k p => exact h
  | ahead u => exact h
/-! ### no answer is long -/
theorem len_insert (le : Nat → Nat → Bool) (a : Nat) : ∀ l : List Nat, (Cl01.insert le a l).length ≤ l.length + 1
  | [] => by simp [Cl01.insert]
  | b :: l => by
    unfold Cl01.insert
    split
    · simp
    · split
      · simp
      · have := len_insert le a l
        simp only [List.length_cons]
        omega
theorem len_foldl (l : List Nat) : ∀ m : List Nat, (l.foldl (fun m a => Cl01.insert (fun x y => decide (x < y)) a m) m).length ≤ m.length + l.length := by
  induction l with
  | nil => exact fun m => Nat.le_refl _
  | cons a l ih =>
    intro m
    have := ih (Cl01.insert (fun x y => decide (x < y)) a m)
    have := len_insert (fun x y => decide (x < y)) a m
    simp only [List.length_cons, List.foldl_cons]
    omega
theorem len_sorted (l : List Nat) : (Cl01.sorted l).length ≤ l.length := by
  have := len_foldl l []
  rw [List.length_nil, Nat.zero_add] at this
  exact this
theorem len_offsets : ∀ p : Place, (Cl02.offsets p).length ≤ 2 * p.length
  | [] => Nat.le_refl _
  | d :: p => by
    have := len_offsets p
    unfold Cl02.offsets at this ⊢
    rw [List.flatMap_cons, List.length_append, List.length_cons]
    split
    · simp only [List.length_singleton]
      omega
    · simp only [List.length_cons, List.length_nil]
      omega
theorem len_moments {p : Place} (h : OkP p) (l : Int) : (Cl02.momentsOf p l).length ≤ 16 := by
  have h1 := len_sorted ((Cl02.offsets p).filterMap fun (z : Int) => if Cl02.isMoment (l - z) = true ∧ Cl02.shown p (l - z).toNat = l then some (l - z).toNat else none)
  have h2 := List.length_filterMap_le (fun (z : Int) => if Cl02.isMoment (l - z) = true ∧ Cl02.shown p (l - z).toNat = l then some (l - z).toNat else none) (Cl02.offsets p)
  have h3 := len_offsets p
  have h4 := h.few
  unfold Cl02.momentsOf
  omega
theorem len_face (l : Int) : (Cl02.face l).length ≤ 6 := by
  unfold Cl02.face
  split
  · simp
  · simp
theorem len_meant (p : Place) (l : Int) : (Cl02.meantAns p l).length ≤ 2 := by
  unfold Cl02.meantAns
  split <;> simp
theorem placeOf_len {s : State} {i : Nat} {f : Place → State × Cl02.Ans} (h : OkS s) (hf : ∀ p, s.places[i]? = some p → OkP p → (f p).2.length ≤ 17) : (Cl02.placeOf s i f).2.length ≤ 17 := by
  unfold Cl02.placeOf
  cases e : s.places[i]? with
  | none => simp
  | some p => exact hf p e (h.places p (List.mem_of_getElem? e))
theorem decreed_len {s : State} {i : Nat} {d : Decree} (h : OkS s) : (Cl02.decreed s i d).2.length ≤ 17 := by
  unfold Cl02.decreed
  refine placeOf_len h fun p e hp => ?_
  split
  · simp
  · split <;> simp
theorem step_len {s : State} (h : OkS s) (c : Call) : (Cl02.step s c).2.length ≤ 17 := by
  unfold Cl02.step
  cases c with
  | place z =>
    show (if Cl02.isOffset z = false then (s, [-1]) else if Cl02.PLACES ≤ s.places.length then (s, [-5]) else ({ s with places := s.places ++ [[⟨0, z, none⟩]] }, [(s.places.length : Int)])).2.length ≤ 17
    split
    · simp
    · split <;> simp
  | decree p m z => exact decreed_len h
  | summer p m z x a b =>
    show (match Cl02.turnOf a, Cl02.turnOf b with
      | some a, some b => if x = 0 ∨ 120 < x ∨ a.month = b.month then Cl02.placeOf s p fun _ => (s, [-1]) else Cl02.decreed s p ⟨m, z, some (x, a, b)⟩
      | _, _ => Cl02.placeOf s p fun _ => (s, [-1])).2.length ≤ 17
    split
    · split
      · exact placeOf_len h fun _ _ _ => by simp
      · exact decreed_len h
    · exact placeOf_len h fun _ _ _ => by simp
  | drop p m =>
    refine placeOf_len h fun x e hx => ?_
    show (if m = 0 ∨ x.any (fun (d : Decree) => d.from_ == m) = false then (s, [-4]) else ({ s with places := s.places.set p (x.filter fun (d : Decree) => d.from_ != m) }, [(x.length : Int) - 1])).2.length ≤ 17
    split <;> simp
  | offset p u =>
    refine placeOf_len h fun x e hx => ?_
    show (if Cl02.MOMENTS ≤ u then [-1] else [1000 + Cl02.offsetAt x u]).length ≤ 17
    split <;> simp
  | shows p u =>
    refine placeOf_len h fun x e hx => ?_
    show (if Cl02.MOMENTS ≤ u then [-1] else 0 :: Cl02.face (Cl02.shown x u)).length ≤ 17
    split
    · simp
    · have := len_face (Cl02.shown x u)
      rw [List.length_cons]
      omega
  | moments p l =>
    refine placeOf_len h fun x e hx => ?_
    show (((Cl02.momentsOf x l).length : Int) :: (Cl02.momentsOf x l).map fun (u : Nat) => (u : Int)).length ≤ 17
    have := len_moments hx l
    rw [List.length_cons, List.length_map]
    omega
  | meant p l =>
    refine placeOf_len h fun x e hx => ?_
    have := len_meant x l
    show (Cl02.meantAns x l).length ≤ 17
    omega
  | change p u =>
    refine placeOf_len h fun x e hx => ?_
    show (if Cl02.MOMENTS ≤ u then [-1] else match Cl02.nextChange x u with
      | none => [-6]
      | some y => [(y.1 : Int), y.2.1, y.2.2]).length ≤ 17
    split
    · simp
    · split <;> simp
  | keep p l =>
    refine placeOf_len h fun x e hx => ?_
    show (if Cl02.KEPT ≤ s.kept.length then (s, [-5]) else ({ s with kept := s.kept ++ [⟨p, l⟩] }, [(s.kept.length : Int)])).2.length ≤ 17
    split <;> simp
  | when k =>
    show (match Cl02.keptOf s k with
      | none => [-3]
      | some x => Cl02.meantAns x.1 x.2).length ≤ 17
    split
    · simp
    · rename_i x e
      have := len_meant x.1 x.2
      omega
  | there k p =>
    show (match Cl02.keptOf s k, s.places[p]? with
      | some x, some y => (match Cl02.meant x.1 x.2 with
        | none => [-6]
        | some u => 0 :: Cl02.face (Cl02.shown y u.1))
      | _, _ => [-3]).length ≤ 17
    split
    · rename_i x y e1 e2
      split
      · simp
      · rename_i u e3
        have := len_face (Cl02.shown y u.1)
        rw [List.length_cons]
        omega
    · simp
  | ahead u =>
    show (if Cl02.MOMENTS ≤ u then [-1] else (s.places.length : Int) :: s.places.map fun (p : Place) => Cl02.offsetAt p u).length ≤ 17
    split
    · simp
    · have := h.room
      rw [List.length_cons, List.length_map]
      omega
theorem len_told : ∀ {xs : List Call} {s : State}, OkS s → (PyFlat.told (runs s xs)).length ≤ 18 * xs.length
  | [], s, _ => Nat.le_refl _
  | x :: xs, s, h => by
    have h1 := step_len h x
    have h2 := len_told (xs := xs) (step_ok h x)
    have e : PyFlat.told (runs s (x :: xs)) = (((Cl02.step s x).2.length : Int) :: (Cl02.step s x).2) ++ PyFlat.told (runs (Cl02.step s x).1 xs) := rfl
    rw [e, List.length_append, List.length_cons, List.length_cons]
    omega
end PcM
/-! Turns one behind another, the next change, what is first shown as more: what the program tries holds what is sought. Plain Lean. -/
namespace PcM
open Cl01 (monthDays monthStart yearOf)
open Cl02 (Decree Place Turn MOMENTS turnAt inForce ahead offsetAt shown)
/-- a moment at which summer begins or ends -/
def TurnM (a b : Turn) (t : Nat) : Prop := t = turnAt (yearOf (t / 1440)) a ∨ t = turnAt (yearOf (t / 1440)) b
theorem turn_jump {a b : Turn} (ha : OkT a) (hb : OkT b) (hm : a.month ≠ b.month) {t : Nat} (ht : 0 < t) (hj : TurnM a b t) : inSummer a b (t - 1) ≠ inSummer a b t := by
  have q := @mom_year t
  have q' := @mom_year (t - 1)
  unfold TurnM at hj
  unfold inSummer
  by_cases e : yearOf ((t - 1) / 1440) = yearOf (t / 1440)
  · rw [e]
    generalize yearOf (t / 1440) = y at hj
    rcases Nat.lt_or_gt_of_ne hm with m | m
    · have x := turnAt_lt_of_month ha hb m y
      rw [if_pos x, if_pos x]
      rcases hj with z | z
      · rw [decide_eq_false (show ¬ turnAt y a ≤ t - 1 by omega), decide_eq_true (show turnAt y a ≤ t by omega), decide_eq_true (show t < turnAt y b by omega)]
        simp
      · rw [decide_eq_true (show turnAt y a ≤ t - 1 by omega), decide_eq_true (show t - 1 < turnAt y b by omega), decide_eq_false (show ¬ t < turnAt y b by omega)]
        simp
    · have x := turnAt_lt_of_month hb ha m y
      rw [if_neg (by omega)]
      rw [if_neg (by omega)]
      rcases hj with z | z
      · rw [decide_eq_false (show ¬ t - 1 < turnAt y b by omega), decide_eq_false (show ¬ turnAt y a ≤ t - 1 by omega), decide_eq_true (show turnAt y a ≤ t by omega)]
        simp
      · rw [decide_eq_true (show t - 1 < turnAt y b by omega), decide_eq_false (show ¬ t < turnAt y b by omega), decide_eq_false (show ¬ turnAt y a ≤ t by omega)]
        simp
  · generalize hy : yearOf (t / 1440) = y at *
    generalize hz : yearOf ((t - 1) / 1440) = z at *
    have le : z ≤ y := by
      rw [← hy, ← hz]
      exact yearOf_mono (by omega)
    have mz := yearStart_mono (show z + 1 ≤ y by omega)
    have t1 : t = 1440 * monthStart y 1 := by omega
    have A := turnAt_ge ha y
    have B := turnAt_ge hb y
    have A' := turnAt_lt ha z
    have B' := turnAt_lt hb z
    rcases Nat.lt_or_gt_of_ne hm with m | m
    · have x := turnAt_lt_of_month ha hb m y
      have x' := turnAt_lt_of_month ha hb m z
      rw [if_pos x, if_pos x']
      rcases hj with w | w
      · rw [decide_eq_false (show ¬ t - 1 < turnAt z b by omega), decide_eq_true (show turnAt y a ≤ t by omega), decide_eq_true (show t < turnAt y b by omega)]
        simp
      · omega
    · have x := turnAt_lt_of_month hb ha m y
      have x' := turnAt_lt_of_month hb ha m z
      rw [if_neg (by omega)]
      rw [if_neg (by omega)]
      rcases hj with w | w
      · omega
      · rw [decide_eq_true (show turnAt z a ≤ t - 1 by omega), decide_eq_false (show ¬ t < turnAt y b by omega), decide_eq_false (show ¬ turnAt y a ≤ t by omega)]
        simp
/-- what the program takes for the turn behind a moment -/
def turnsBy (a b : Turn) (y : Nat) : List Nat := [turnAt y a, turnAt y b, turnAt (y + 1) a, turnAt (y + 1) b]
theorem turnsBy_ex {a : Turn} (b : Turn) (ha : OkT a) (u : Nat) : turnAt (yearOf (u / 1440) + 1) a ∈ turnsBy a b (yearOf (u / 1440)) ∧ u < turnAt (yearOf (u / 1440) + 1) a := by
  refine ⟨List.mem_cons_of_mem _ (List.mem_cons_of_mem _ (List.mem_cons_self ..)), ?_⟩
  have q := (@mom_year u).2
  have := turnAt_ge ha (yearOf (u / 1440) + 1)
  omega
theorem turnsBy_least {a b : Turn} (ha : OkT a) (hb : OkT b) {u t : Nat} (hm : t ∈ turnsBy a b (yearOf (u / 1440))) (hu : u < t) (hl : ∀ c, c ∈ turnsBy a b (yearOf (u / 1440)) → u < c → t ≤ c) : Least (fun t => u < t ∧ TurnM a b t) t := by
  refine ⟨⟨hu, ?_⟩, fun c hc => ?_⟩
  · have k1 : ∀ y, TurnM a b (turnAt y a) := fun y => .inl (by rw [turnAt_year ha])
    have k2 : ∀ y, TurnM a b (turnAt y b) := fun y => .inr (by rw [turnAt_year hb])
    rcases List.mem_cons.mp hm with z | z
    · rw [z]
      exact k1 _
    · rcases (List.mem_cons).mp z with z | z
      · rw [z]
        exact k2 _
      · rcases (List.mem_cons).mp z with z | z
        · rw [z]
          exact k1 _
        · have z1 := List.mem_singleton.mp z
          rw [z1]
          exact k2 _
  · obtain ⟨c1, c2⟩ := hc
    have m := yearOf_mono (show u / 1440 ≤ c / 1440 by omega)
    have qc := (@mom_year c).1
    obtain ⟨e1, e2⟩ := turnsBy_ex b ha u
    have l1 := hl _ e1 e2
    have e3 := turnAt_lt ha (yearOf (u / 1440) + 1)
    unfold TurnM at c2
    generalize yearOf (c / 1440) = z at *
    by_cases h2 : yearOf (u / 1440) + 2 ≤ z
    · have m2 := yearStart_mono (show yearOf (u / 1440) + 1 + 1 ≤ z from h2)
      omega
    · refine hl c ?_ c1
      have hz : z = yearOf (u / 1440) ∨ z = yearOf (u / 1440) + 1 := by omega
      rcases hz with rfl | rfl <;> rcases c2 with w | w <;> rw [w]
      · exact List.mem_cons_self ..
      · exact List.mem_cons_of_mem _ (List.mem_cons_self ..)
      · exact .tail _ (.tail _ (.head _))
      · exact List.mem_cons_of_mem _ (List.mem_cons_of_mem _ (List.mem_cons_of_mem _ (List.mem_cons_self ..)))
/-- what the next change is: a decree's beginning, or the first turn behind the moment and the decree's beginning -/
theorem change_tried {p : Place} (h : OkP p) {u t : Nat} (ht : Least (Change p u) t) : ∃ d ∈ p, t = d.from_ ∨ ∃ x a b, d.summer = some (x, a, b) ∧ Least (fun t => max u d.from_ < t ∧ TurnM a b t) t := by
  obtain ⟨m1, m2, m3⟩ := inForce_mem h t
  obtain ⟨c1, c2, c3⟩ := ht.1
  by_cases e : (inForce p t).from_ = t
  · exact ⟨_, m1, .inl e.symm⟩
  · have same : ∀ x, (inForce p t).from_ ≤ x → x ≤ t → inForce p x = inForce p t := fun x h1 h2 => inForce_eq h m1 h1 fun d hd hu => m3 d hd (by omega)
    have e2 := same (t - 1) (by omega) (by omega)
    refine ⟨_, m1, .inr ?_⟩
    unfold offsetAt at c3
    rw [e2] at c3
    cases hs : (inForce p t).summer with
    | none =>
      rw [ahead_none hs, ahead_none hs] at c3
      exact absurd rfl c3
    | some q =>
      obtain ⟨x, a, b⟩ := q
      rw [ahead_some hs, ahead_some hs] at c3
      obtain ⟨x1, _, oa, ob, hm⟩ := (inForce_ok h t).sum _ _ _ hs
      have tt : TurnM a b t := summer_jump oa ob hm (by omega) fun z => by
        rw [z] at c3
        exact c3 rfl
      refine ⟨x, a, b, rfl, ⟨by omega, tt⟩, fun c hc => Nat.le_of_not_lt fun hlt => ?_⟩
      obtain ⟨d1, d2⟩ := hc
      have tj := turn_jump oa ob hm (by omega) d2
      have f1 := same (c - 1) (by omega) (by omega)
      have f2 := same c (by omega) (by omega)
      have := ht.2 c ⟨by omega, by omega, ?_⟩
      · omega
      · unfold offsetAt
        rw [f1, f2, ahead_some hs, ahead_some hs]
        intro z
        refine tj ?_
        cases q1 : inSummer a b (c - 1) <;> cases q2 : inSummer a b c
        · rfl
        · rw [q1, q2] at z
          simp only [Bool.false_eq_true, if_false, if_true] at z
          omega
        · rw [q1, q2] at z
          simp only [Bool.false_eq_true, if_false, if_true] at z
          omega
        · rfl
/-- between changes clocks go on by single minutes -/
theorem shown_on {p : Place} {l : Int} {t c : Nat} (hn : ∀ t, t < 52596000 → shown p t ≠ l) (cM : c ≤ 52596000) (hc : ∀ x, t < x → x < c → offsetAt p (x - 1) = offsetAt p x) (h0 : shown p t < l) : ∀ x, t ≤ x → x < c → shown p x < l := by
  intro x
  induction x with
  | zero =>
    intro h1 h2
    obtain rfl : t = 0 := by omega
    exact h0
  | succ x ih =>
    intro h1 h2
    by_cases e : t = x + 1
    · rw [← e]
      exact h0
    · have i1 := ih (by omega) (by omega)
      have i2 := hc (x + 1) (by omega) h2
      have i3 := hn (x + 1) (by omega)
      rw [Nat.add_sub_cancel] at i2
      unfold shown at i1 i3 ⊢
      rw [← i2] at i3 ⊢
      have : ((x + 1 : Nat) : Int) = (x : Int) + 1 := by omega
      omega
theorem far_back {p : Place} (h : OkP p) {l : Int} {t : Nat} (ht : (t : Int) < l - 960) : shown p t < l := by
  have := (shown_lo h t).2
  omega
/-- what's meant, by what there is -/
theorem meant_cases {p : Place} (h : OkP p) (l : Int) : (∃ t r, Cl02.momentsOf p l = t :: r ∧ Cl02.meant p l = some (t, true) ∧ shown p t = l) ∨
    (Cl02.momentsOf p l = [] ∧ (∀ t, t < 52596000 → shown p t ≠ l) ∧ ((∃ t, Least (fun t => t < 52596000 ∧ l < shown p t) t ∧ Cl02.meant p l = some (t, false)) ∨ ((∀ t, t < 52596000 → shown p t < l) ∧ Cl02.meant p l = none))) := by
  have hm := mem_momentsOf h l
  cases e : Cl02.momentsOf p l with
  | cons t r =>
    refine .inl ⟨t, r, rfl, ?_, ((hm t).mp (by rw [e]; exact List.mem_cons_self ..)).2⟩
    unfold Cl02.meant
    rw [e]
    rfl
  | nil =>
    have hn : ∀ t, t < 52596000 → shown p t ≠ l := fun t h1 h2 => by
      have := (hm t).mpr ⟨h1, h2⟩
      rw [e] at this
      cases this
    refine .inr ⟨rfl, hn, ?_⟩
    by_cases q : ∃ t, t < 52596000 ∧ l < shown p t
    · obtain ⟨t, ht⟩ := least_ex q
      exact .inl ⟨t, ht, meant_jump h hn ht⟩
    · have q' : ∀ t, t < 52596000 → shown p t < l := fun t h1 => by
        have := hn t h1
        have : ¬ l < shown p t := fun z => q ⟨t, h1, z⟩
        omega
      exact .inr ⟨q', meant_none h q'⟩
/-- whether there is a next change -/
theorem change_cases (p : Place) (u : Nat) : (∃ t, Least (Change p u) t) ∨ ∀ t, ¬ Change p u t := by
  by_cases q : ∃ t, Change p u t
  · exact .inl (least_ex q)
  · exact .inr fun t z => q ⟨t, z⟩
end PcM
/-! set(xs) of a list of whole numbers, for the hand layer. -/
namespace PcR
open L2 PyProof.Rows PySem.Spec PySem
section
variable {prg : Program} {wd : World} {ar : Around} {Er : Value → Shared → Prop} {st : Shared}
abbrev freshSet (wd : World) : Obj := { cls := .type "set", dict := none, data := .set #[] 0 (.fresh 0 0 (!wd.params.followText "set-order")) }
/-- what stands behind set(l): all that stood, and the new set -/
def SetMade (wd : World) (st : Shared) (ns : List Int) (s' : Shared) : Prop := ∃ g tk c, s' = { st with heap := g, toks := tk } ∧ SetR wd g st.heap.objs.size (fun j => decide (j ∈ ns)) c ∧ c ≤ ns.length ∧ ∀ b o, st.heap.get? b = some o → g.get? b = some o
theorem setMade_init {l : Addr} {its : Array Value} {ns : List Int} (ho : ar.handled = none) (hl : st.heap.IsList l its) (hi : IntsAre its.toList ns) (hb : ns.length + 1 < scanBound)
    (hT : Shared.TypeIs { st with heap := st.heap.push (freshSet wd) } (.ref st.heap.objs.size) "set") (hS : (st.heap.push (freshSet wd)).get? st.heap.objs.size = some (freshSet wd)) :
    codeAny (model prg wd) ar (.call (.builtin "set.__init__") ⟨[.ref st.heap.objs.size, .ref l], []⟩) (wants (fun r s₂ => r = .none ∧ SetMade wd st ns s₂) Er) { st with heap := st.heap.push (freshSet wd) } := by
  have hisz : its.size = ns.length := (Array.length_toList ▸ IntsAre.length hi)
  refine codeAny_call_builtin F.called_set.init.plain F.entry_set_init (check_set_init_1 hT ?_)
  obtain ⟨⟨oc, od, dt, osl⟩, hol, hcl, nl, hdl⟩ := hl
  dsimp only at hcl hdl
  cases hcl
  cases hdl
  have hol2 : (st.heap.push (freshSet wd)).get? l = _ := Heap.get?_push_of_some _ hol
  have a1 := F.sub_list_set
  have a2 := F.sub_list_frozenset
  have a3 : (Value.type "list" == Value.type "dict") = false := by decide
  have hl1 : (st.heap.push (freshSet wd)).IsList l its := ⟨_, hol2, rfl, nl, rfl⟩
  unfold Builtin.«set.__init__»
  unfold noKeywords Builtin.Frozenset.updateFrom
  generalize hPI : pyIter = PI
  wp_walk
  cases hPI
  refine wpAny_pyIter_list hl1 (wpAny_bind (wpAny_runValue ?_))
  have lt := Heap.lt_size hol
  have sz : (st.heap.push (freshSet wd)).objs.size = st.heap.objs.size + 1 := Heap.size_push ..
  have n1 : l ≠ (st.heap.push (freshSet wd)).objs.size := fun z => absurd (z.trans sz) (Nat.ne_of_lt (Nat.lt_succ_of_lt lt))
  have n2 : st.heap.objs.size ∉ [(st.heap.push (freshSet wd)).objs.size, l] := fun z => by
    rcases (List.mem_cons).mp z with z | z
    · exact absurd (z.trans sz) (Nat.ne_of_lt (Nat.lt_succ_self _))
    · exact absurd (List.mem_singleton.mp z) (Nat.ne_of_gt lt)
  have hv : ∀ (i : Nat) (v : Value), its[i]? = some v → ∃ k t, ns[i]? = some k ∧ v = .int k t := fun i v hv => by
    have hi' : i < ns.length := hisz ▸ (Array.getElem?_eq_some_iff.mp hv).1
    obtain ⟨t, e⟩ := IntsAre.int_at hi i v (Array.getElem?_toList ▸ hv)
    exact ⟨ns[i], t, List.getElem?_eq_getElem hi', by rw [e, List.getD_eq_getElem?_getD, List.getElem?_eq_getElem hi'] <;> rfl⟩
  have W := (Walks.list (prog := prg) (w := wd) (show ar.in1.in1.handled = none by simp [ho]) _ l n1 its).toS
  refine set_update_ints W st.heap.objs.size n2 ns hisz hb hv (its.size - 0) 0 _ (by omega) (Nat.zero_le _) ?s1 ⟨0, Nat.le_refl 0, ?s0⟩ fun s' c' hm hc' hS' => ?_
  case s1 => exact ⟨⟨_, Heap.get?_push_size _ rfl, rfl, rfl⟩, hl1.push _⟩
  case s0 => exact setR_new_at (Heap.get?_push_of_some _ hS)
  obtain ⟨hN, g2, d', tk', os'⟩ := s'
  obtain rfl : g2 = st.gens := hm.gens
  obtain rfl : d' = st.drawn := hm.drawn
  obtain rfl : os' = st.os := hm.os
  show wpAny _ _ _ _ _ _
  refine wpAny_pure ?_
  show wpAny _ _ (ret (Value.none)) _ _ _
  refine wpAny_pure ⟨rfl, hN, tk', c', rfl, hS', hisz ▸ hc', fun b o e => hm.heap b o (fun z => ?_) (Heap.get?_push_of_some _ (Heap.get?_push_of_some _ e))⟩
  have lb := Heap.lt_size e
  rcases (List.mem_cons).mp z with z | z
  · exact absurd z (Nat.ne_of_lt lb)
  · exact absurd ((List.mem_singleton.mp z).trans sz) (Nat.ne_of_lt (Nat.lt_succ_of_lt lb))
/-- set(l), l a list of whole numbers -/
theorem call_set_ints {l : Addr} {its : Array Value} {ns : List Int} {Q : Value → Shared → Prop} (ho : ar.handled = none) (hl : st.heap.IsList l its) (hi : IntsAre its.toList ns) (hb : ns.length + 1 < scanBound)
    (h : ∀ s', SetMade wd st ns s' → Q (.ref st.heap.objs.size) s') : wpAny (model prg wd) ar (call (.type "set") [.ref l]) Q Er st := by
  have ⟨c, tl, hmro⟩ := F.called_set.mro
  have b1 := F.called_set.made
  have b2 := F.called_set.sub
  have b3 := F.called_set.notType
  have b4 := F.called_set.canCreate
  have b5 := F.typeCall_set_1 (.ref l)
  refine wpAny_call <| codeAny_of_tree ?_
  show wpAny _ _ (callAny (Value.type "set") _) _ _ _
  refine wpAny_pure ⟨Code.quiet_builtin _ (by decide +kernel), codeAny_builtin F.entry_type_call (?_ : wpAny _ _ _ _ _ _)⟩
  rw [Around.under_plain (weight_type_call_type "set" [Value.ref l] []) rfl]
  repeat (any_goals first | wp_step | assumption)
  refine codeAny_mono (code_set_led1 (.ref l) (E := Er) (Q₁ := fun o s₁ => o = .ref st.heap.objs.size ∧ s₁ = { st with heap := st.heap.push (freshSet wd) }) ⟨rfl, rfl⟩) fun r s₁ hr => ?_
  rcases r with e | fl
  · exact hr
  · cases fl with
    | ret o =>
      obtain ⟨rfl, rfl⟩ := hr
      have hS : (st.heap.push (freshSet wd)).get? st.heap.objs.size = some (freshSet wd) := Heap.get?_push_size _ rfl
      have hT : Shared.TypeIs { st with heap := st.heap.push (freshSet wd) } (.ref st.heap.objs.size) "set" := ⟨_, hS, rfl⟩
      have c1 := F.called_set.init.lookup
      have c2 := F.called_set.init.bind (.ref st.heap.objs.size)
      repeat (any_goals first | wp_step | assumption)
      refine codeAny_mono (setMade_init (Er := Er) ho hl hi hb hT hS) fun r₂ s₂ hr₂ => ?_
      rcases r₂ with e | fl₂
      · exact hr₂
      · cases fl₂ with
        | ret u =>
          obtain ⟨rfl, m⟩ := hr₂
          repeat (any_goals first | wp_step | assumption)
          exact h _ m
        | _ => exact hr₂.elim
    | _ => exact hr.elim
end
/-- set(l): a new set of what stands in l -/
def rSetL (K : PySem.W.Frag) (w : World) : List V → Hp → VK → Prop := fun xs H Q => ∃ (l : Addr) (ns : List Int), xs = [V.ref l] ∧ SqL K H l (ns.map V.int) ∧ ns.length < 64 ∧
  ∀ (a : Addr) (n : Nat), H a = none → n ≤ ns.length → Q (.ref a) (upd H a (SetO w a (fun j => decide (j ∈ ns)) n))
theorem cr_setL {X : Cx} (hc : X.calm = true) : CallR X (.type "set") (rSetL X.K X.w) := by
  intro pn s σ H xs us Q I r h
  obtain ⟨l, ns, rfl, hl, h64, q⟩ := h
  rw [Vals.ref1 r]
  obtain ⟨itm, rv, pl, hz⟩ := I.list hl
  refine call_set_ints (prg := X.prog) (wd := X.w) (ns := ns) (I.ok.hd hc) pl.isList (by simpa using ints_of_vals rv) (Nat.lt_trans (Nat.succ_lt_succ h64) (by decide)) fun s' m => ?_
  obtain ⟨g, tk, c, rfl, R, hc, kp⟩ := m
  exact ⟨.ref s.heap.objs.size, upd H s.heap.objs.size (SetO X.w s.heap.objs.size (fun j => decide (j ∈ ns)) c), I.laid (t' := tk) kp (Nat.le_refl _) (setO_new R), rfl, q _ c (I.hok.fresh (Nat.le_refl _)) hc⟩
/-- sorted(set(l)) -/
def rSortedUniq (K : PySem.W.Frag) : List V → Hp → VK → Prop := fun xs H Q => ∃ (l : Addr) (ns : List Int), xs = [V.ref l] ∧ SqL K H l (ns.map V.int) ∧ ns.length < 64 ∧
  ∀ (H' : Hp) (ms : List Int) (p : Addr), (∀ b o, H b = some o → H' b = some o) → ms.Pairwise (· < ·) → (∀ k, k ∈ ms ↔ k ∈ ns) → H p = none → H' p = some (.lst (ms.map V.int)) → Q (.ref p) H'
end PcR
/-! sorted(xs, key=lambda a: a.f), for the hand layer: xs a list of instances whose attribute f is a whole number. -/
namespace PcR
open L2 PyProof.Rows PySem.Spec PySem
section
variable {prg : Program} {wd : World} {ar : Around} {st : Shared}
/-- the lambda's names: its parameter alone -/
structure LamOne (sc : Scope) (a : Str) : Prop where
  kind : sc.kind = .function
  co : sc.isCoroutine = false
  gen : sc.isGenerator = false
  names : sc.names = [(a, .local)]
/-- one call of it: the attribute of what it is handed -/
theorem key_call {K : PySem.W.Frag} {f c' b dx C : Addr} {qual a fld : Str} {params : Arguments} {sc : Scope} {pm ctv v : Value} {p1 p2 : Pos} {mA : Str → Option Value} {i : Int}
    (hroom : ar.depth < recursionLimit) (hA : ar.handled = none) (ho : st.heap.get? f = some (PySem.W.kla_obj "<lambda>" qual params (.Attribute (.Name a p1) fld p2) sc [] pm c' ctv)) (hcd : st.heap.CodeRec (.ref c') qual) (hlim : st.heap.NoLimit) (KX : K.In st.heap)
    (L : LamOne sc a) (hbind : bindArgs (PySem.W.kla_fn "<lambda>" qual params (.Attribute (.Name a p1) fld p2) sc [] pm (.ref c') ctv) ⟨[v], []⟩ = pure [(a, v)])
    (hv : v = .ref b) (O : ObjM st.heap b dx C mA) (hg : PySem.W.plainGet K C fld = true) (hh : PySem.W.hasDictIn K C = true) (hn : NoAttr K C fld) (hi : ∃ t, mA fld = some (.int i t)) (hdb : (a == ("__debug__" : Str)) = false) :
    wpAny (model prg wd) ar (call (.ref f) [v]) (PySem.W.KeyPure (.int i) st) (fun _ _ => False) st := by
  obtain ⟨t, hi⟩ := hi
  have e1 : sc.names.lookup a = some .local := by
    rw [L.names]
    simp
  refine wpAny_call (PySem.W.kla_callFunE hroom ho rfl L.co L.gen rfl hcd ?_)
  rw [hbind]
  refine wpAny_pure (wpAny_newFunctionEnv (fun y hy => ?_) (fun y hy => ?_) (fun h₁ hns hsb => ⟨hlim.fresh _ hsb, PySem.W.kla_codeExpr ?_⟩) L.kind)
  · rw [L.names] at hy
    rw [List.mem_singleton.mp hy]
    exact fun z => by cases z
  · rw [List.mem_singleton.mp hy]
    exact e1
  · have kp : ∀ b o, st.heap.get? b = some o → h₁.get? b = some o := fun b o e => hsb.extBut b o (Nat.ne_of_lt (Heap.lt_size e)) (Heap.get?_push_of_some _ e)
    have kO : ObjM h₁ b dx C mA := ⟨kp _ _ O.obj, O.ns.keeps kp, O.ne⟩
    subst hv
    refine attr_of rfl (wpAny_Name (wpAny_loadName_local (v := .ref b) L.kind e1 hns (by simp) ?_) hdb)
    exact get_map (dx := dx) (C := C) (KX.keeps kp) kO hg hh hn hi rfl ⟨h₁, _, rfl, kp, PySem.Reads.int _ _⟩
end
section
variable {X : Cx}
/-- what stands behind the sort: the list's items by their numbers -/
def tSortLam (K : PySem.W.Frag) (T : List (Addr × Str)) (fld : Str) (te : TE) : TE := fun σ H Q => te σ H fun x H1 => ∃ (l : Addr) (xs : List V) (k : V → Int), x = .ref l ∧ SqL K H1 l xs ∧ xs.length ≤ 1000 ∧
  (∀ y ∈ xs, ∃ b C dx fs, y = .ref b ∧ H1 b = some (.ins C dx fs) ∧ Cls K C ∧ NoAttr K C fld ∧ fs.lookup fld = some (.int (k y))) ∧ LamX.Tabs T H1 ∧
  ∀ (H2 : Hp) (p : Addr), LamX.ExtN H1 H2 → LamX.Tabs T H2 → H2 p = none → Q (.ref p) (upd H2 p (.lst (xs.mergeSort fun a b => decide (k a ≤ k b))))
theorem eachIs_of_vals {xs0 : List V} : ∀ {xs : List V} {us : List Value}, Vals xs us → (∀ y ∈ xs, y ∈ xs0) → PySem.W.EachIs (fun u y => RelV y u ∧ y ∈ xs0) us xs
  | [], _, .nil, _ => .nil
  | y :: ys, _, .cons r t, h => .cons ⟨r, h y (List.mem_cons_self ..)⟩ (eachIs_of_vals t fun z hz => h z (List.mem_cons_of_mem _ hz))
theorem vals_of_eachIs {xs0 : List V} : ∀ {xs : List V} {us : List Value}, PySem.W.EachIs (fun u y => RelV y u ∧ y ∈ xs0) us xs → Vals xs us
  | [], _, .nil => .nil
  | _ :: _, _, .cons r t => .cons r.1 (vals_of_eachIs t)
theorem pe_sortLam {T : List (Addr × Str)} {c P : Addr} {params : Arguments} {a fld : Str} {sc : Scope} {p p1 p2 lpos kpos pos : Pos} {e : Expr} {te : TE} (hc : X.calm = true) (hr : Room 3 X.A) (hg : Gl X "sorted") (hm : X.mg "sorted" = none) (he : PE X e te)
    (TB : LamX.TabB X.base X.mg c P) (hcode : X.env.code = .ref c) (hmT : (P, X.env.qual ++ "<lambda>") ∈ T) (hu : ∀ q ∈ T, q.1 = P → q.2 = X.env.qual ++ "<lambda>") (L : LamOne sc a) (hdef : defaultsOf params X.env = ([], []))
    (hbind : ∀ (q : Str) (pm cv ctv v : Value), bindArgs (PySem.W.kla_fn "<lambda>" q params (.Attribute (.Name a p1) fld p2) sc [] pm cv ctv) ⟨[v], []⟩ = pure [(a, v)]) (hdb : (a == ("__debug__" : Str)) = false)
    (hb1 : backTo pos (starEach [e] X.env) = (false, eval e X.env) :: backTo pos (starEach [] X.env) := by rfl) (hb2 : (backTo pos (starEach [e] X.env)).any (·.1) = false := by rfl) :
    PE X (.Call (.Name "sorted" p) [e] [⟨some "key", .Lambda params (.Attribute (.Name a p1) fld p2) sc lpos, kpos⟩] pos) (tSortLam X.K T fld te) := by
  refine ⟨fun pn s σ H Q I h => ?_⟩
  refine wpAny_Call_Name_kw (ld_blt I hg hm (show bootBuiltins "sorted" = some (.builtin "sorted") by decide +kernel) ?_ (by decide) (by decide))
  refine PyProof.Rows.callWith_kw ?_ hb1 hb2 rfl rfl
  rw [hb1]
  refine Calls.spliced_cons (thn (he.run pn s σ H _ I h) fun u s1 ⟨x, H1, I1, r1, q1⟩ => ?_)
  refine Calls.spliced_nil ?_
  obtain ⟨l, xs, k, rfl, hl, hlen, hf, hT, q⟩ := q1
  obtain rfl : u = .ref l := r1
  show wpAny _ _ (evalAll [do let v ← eval (.Lambda params (.Attribute (.Name a p1) fld p2) sc lpos) X.env; standAt pos; pure v]) _ _ s1
  have clo : cloFrom X.env.cells sc.names [] = [] := by
    rw [L.names]
    rfl
  refine wpAny_evalAll_cons (wpAny_bind (LamX.lam_make2 I1 TB hcode hmT hu hT hdef (fun y hy z => ?_) fun f c' pm ctv H2 s2 I2 eN T2 hfo hfn hfr hco => ?_))
  · rw [L.names] at hy
    rw [List.mem_singleton.mp hy] at z
    cases z
  refine wpAny_bind (wpAny_standAt (wpAny_pure (wpAny_evalAll_nil ?_)))
  rw [clo] at hfo
  have hl2 : SqL X.K H2 l xs := by
    rcases hl with (h0 | ⟨o, h0⟩) | h0
    · exact .inl (.inl (eN _ _ h0 (fun ps z => by cases z)))
    · exact .inl (.inr ⟨o, eN _ _ h0 (fun ps z => by cases z)⟩)
    · exact .inr h0
  obtain ⟨its, rv, pl, hz⟩ := I2.list hl2
  obtain ⟨⟨oc, vs, t, hoc, hd, hv⟩, _, _⟩ := I2.hok c' _ hco
  have hl3 := vals_of_eachIs (xs0 := xs) (eachIs_of_vals rv fun y hy => hy)
  refine PySem.W.sorted_key_data (b := false) (bs := xs) (R := fun u y => RelV y u ∧ y ∈ xs) (f := .ref f) (fun y => PyData.int (k y)) pl.isList (eachIs_of_vals rv fun y hy => hy) ?al ?so (Nat.le_trans hlen (by decide)) ?un (PyProof.Rows.ksk_s1 _ _) (fun x => PyProof.Rows.ksk_l1 _ _) (fun x => PyProof.Rows.ksk_t1 _ _) ?turn ?fin
  case al =>
    intro d hd d' hd'
    obtain ⟨y, _, rfl⟩ := List.mem_map.mp hd
    obtain ⟨z, _, rfl⟩ := List.mem_map.mp hd'
    rfl
  case so =>
    refine Or.inr fun d hd => ?_
    obtain ⟨y, _, e⟩ := List.mem_map.mp hd
    subst e
    exact And.intro (fun z => by cases z) (fun xs z => by cases z)
  case un =>
    intro y _
    have := hr.un
    show X.A.units + 2 + 0 < cLine
    omega
  case turn =>
    rintro v y ⟨rv, hy⟩ _ h tk kp
    obtain ⟨b, C, dx, fs, rfl, hb, cl, na, hlk⟩ := hf y hy
    have hb2 := eN _ _ hb (fun ps z => by cases z)
    obtain ⟨mA, O, rm, _, _, _⟩ := ins_get I2.hok hb2
    obtain ⟨w, hw, rw'⟩ := RelO.some_of (v := .int (k (.ref b))) (o := mA fld) (by rw [← hlk]; exact rm fld)
    obtain ⟨t', rfl⟩ := rw'
    have hr1 : Room 1 X.A.in1.in1 := hr.in1.in1
    exact key_call (st := { s2 with heap := h, toks := tk }) (C := C) (dx := dx) (b := b) (mA := mA) hr1.depth hr1.hd (kp _ _ hfo) ⟨c', oc, vs, t, rfl, kp _ _ hoc, hd, hv⟩ (I2.nolimit.keeps kp) (I2.kIn.keeps kp) L (hbind _ _ _ _ _) rv ⟨kp _ _ O.obj, O.ns.keeps kp, O.ne⟩ (cl.get fld) cl.hd na ⟨t', hw⟩ hdb
  case fin =>
    intro out cE h' tk kp hn hp ho hE
    have hv := vals_of_eachIs hE
    rw [PySem.W.dataLe_int] at hv
    have hfresh : H2 (s2.heap.objs.size + 1) = none := I2.hok.fresh (Nat.le_succ _)
    refine ⟨.ref (s2.heap.objs.size + 1), _, I2.laidN (o := .lst (xs.mergeSort fun a b => decide (k a ≤ k b))) (t' := tk) kp hn hfresh ⟨?_, out, cE, hv, hp⟩, rfl, q H2 _ eN T2 hfresh⟩
    rw [List.length_mergeSort]
    exact Nat.le_trans hlen (by decide)
end
end PcR
/-! The end of the row of a specification whose program makes lambdas: one argument, a list of whole numbers; the tables of code objects are tracked. -/
namespace PcR
open L2 PyProof.Rows PySem.Spec PySem
open PySem.W (Codec OpenSpec WData ReadsAllW ReadsW WellAll Well)
/-- what is tracked at the call: the list handed in, the tables -/
noncomputable def argT0 (K : PySem.W.Frag) (ts : List Addr) (a : Addr) (o : Obj) (ns : List Int) : Hp := fun b =>
  if b ∈ ts then some (.tbl #[]) else if b = a ∧ K.lookup a = none then some (.frz o (.lst (ns.map V.int))) else none
abbrev listObj (vs : List Value) : Obj := { cls := .type "list", data := .seq vs.toArray }
section
variable {P : Program} {w : World} {K : PySem.W.Frag} {ts : List Addr} {a : Addr} {vs : List Value} {ns : List Int} {h : Heap}
theorem argT0_tab {b : Addr} (hb : b ∈ ts) : argT0 K ts a (listObj vs) ns b = some (.tbl #[]) := if_pos hb
theorem argT0_cases (b : Addr) : (argT0 K ts a (listObj vs) ns b = none) ∨ (b ∈ ts ∧ argT0 K ts a (listObj vs) ns b = some (.tbl #[])) ∨ (b = a ∧ K.lookup a = none ∧ argT0 K ts a (listObj vs) ns b = some (.frz (listObj vs) (.lst (ns.map V.int)))) := by
  unfold argT0
  by_cases h1 : b ∈ ts
  · exact .inr (.inl ⟨h1, if_pos h1⟩)
  · by_cases h2 : b = a ∧ K.lookup a = none
    · exact .inr (.inr ⟨h2.1, h2.2, (if_neg h1).trans (if_pos h2)⟩)
    · exact .inl ((if_neg h1).trans (if_neg h2))
theorem argT0_at {b : Addr} {u : HO} (e : argT0 K ts a (listObj vs) ns b = some u) : (b ∈ ts ∧ u = .tbl #[]) ∨ (b = a ∧ K.lookup a = none ∧ u = .frz (listObj vs) (.lst (ns.map V.int))) := by
  rcases argT0_cases (K := K) (ts := ts) (a := a) (vs := vs) (ns := ns) b with z | ⟨z, q⟩ | ⟨z, k, q⟩
  · rw [z] at e
    cases e
  · rw [q] at e
    cases e
    exact .inl ⟨z, rfl⟩
  · rw [q] at e
    cases e
    exact .inr ⟨z, k, rfl⟩
end
theorem spec_callT {P : Program} {w : World} {K : PySem.W.Frag} {mg mb : Str → Option Value} {CX : CXT} {k : Nat} {fa a : Addr} {cs : List (Addr × Addr)} {fd : FuncData} {x : Str} {sp : Sp} {sA : Shared} {vs : List Value} {ns : List Int} {R : PySem.W.WRecords} {cl : Str → Option Addr} {d0 : WData}
    (kxA : K.In sA.heap) (nsM : sA.heap.Ns mainGlobals mg) (hb : sA.heap.Ns builtinsNs mb) (bltE : ∀ x : Str, x ≠ "__name__" → mb x = bootBuiltins x) (limA : sA.heap.NoLimit) (hg : sA.gens = #[])
    (hT : ∀ p ∈ cs, sA.heap.get? p.2 = some (PySem.W.tabObj #[])) (nT : ∀ p ∈ cs, K.lookup p.2 = none) (C : ∀ p ∈ cs, PySem.W.CodeHd sA.heap p.1 p.2)
    (modB : ∃ (bm : Addr) (ob : Obj), mg "__builtins__" = some (.ref bm) ∧ bm ≠ builtinsNs ∧ sA.heap.get? bm = some ob ∧ ob.cls = .type "module" ∧ ob.dict = some builtinsNs ∧ ob.data = .plain)
    (ha : sA.heap.get? a = some (listObj vs)) (hi : IntsAre vs ns) (hl : ns.length ≤ sizeLine) (hr : Room k callerA)
    (F : ∀ base : Heap, K.In base → base.Ns mainGlobals mg → (∀ p ∈ cs, LamX.TabB base mg p.1 p.2) → FnOk P w K mg base CX k fa fd [x] sp) (hbind : ∀ (s : Shared) (u : Value), BindsTo s fd ⟨[u], []⟩ [(x, u)])
    (hsp : ∀ H : Hp, (∀ p ∈ cs, H p.2 = some (.tbl #[])) → SqL K H a (ns.map V.int) → sp [.ref a] H (fun v H' => Dw K H' v d0) fun _ _ _ => False)
    (noEsc : ∀ H e s', CX [] H sA (fun _ _ _ => False) e s' → False) :
    codeAny (model P w) callerA (.call (.ref fa) ⟨[.ref a], []⟩) (fun r s' => ∃ u as, r = .ok (.ret u) ∧ ReadsW R cl s'.heap u d0 as ∧ OldK sA.heap s'.heap ∧ s'.os = sA.os ∧ AllBare s'.gens) sA := by
  have lnV := hi.length
  have rv := vals_of_ints hi
  have isT : ∀ b ∈ cs.map (·.2), sA.heap.get? b = some (PySem.W.tabObj #[]) := fun b hb => by
    obtain ⟨pr, hpr, e⟩ := List.mem_map.mp hb
    exact e ▸ hT pr hpr
  have kT : ∀ b ∈ cs.map (·.2), K.lookup b = none := fun b hb => by
    obtain ⟨pr, hpr, e⟩ := List.mem_map.mp hb
    exact e ▸ nT pr hpr
  have mT : ∀ p ∈ cs, p.2 ∈ cs.map (·.2) := fun p hp => List.mem_map.mpr ⟨p, hp, rfl⟩
  have aT : ¬ a ∈ cs.map (·.2) := fun z => by
    have q := (isT a z).symm.trans ha
    have q2 : Data.fields #[] = Data.seq vs.toArray _ := congrArg Obj.data (Option.some.inj q)
    cases q2
  generalize hH : argT0 K (cs.map (·.2)) a (listObj vs) ns = H
  have HT : ∀ p ∈ cs, H p.2 = some (.tbl #[]) := fun p hp => hH ▸ argT0_tab (mT p hp)
  have Hat : ∀ b u, H b = some u → (b ∈ cs.map (·.2) ∧ u = .tbl #[]) ∨ (b = a ∧ K.lookup a = none ∧ u = .frz (listObj vs) (.lst (ns.map V.int))) := fun b u e => argT0_at (hH ▸ e)
  have Hl : ∀ {xs}, H a = some xs → K.lookup a = none := fun {xs} e => by
    rcases Hat a _ e with z | z
    · exact absurd z.1 aT
    · exact z.2.1
  have okL : (listObj vs).data = .seq vs.toArray := rfl
  have okA : HOk P w H sA.heap := fun b u e => by
    rcases Hat b u e with ⟨z, rfl⟩ | ⟨rfl, _, rfl⟩
    · exact isT b z
    · exact ⟨ha, by rw [List.length_map]; exact hl, vs, _, rv, ha⟩
  have hS : SqL K H a (ns.map V.int) := by
    cases hk : K.lookup a with
    | none =>
      refine .inl (.inr ⟨listObj vs, ?_⟩)
      rw [← hH]
      unfold argT0
      rw [if_neg aT, if_pos ⟨rfl, hk⟩]
    | some o =>
      have e := (kxA a o hk).symm.trans ha
      cases e
      exact .inr ⟨_, vs.toArray, _, hk, rfl, rfl, rfl, by rw [List.size_toArray, lnV]; exact hl, by simpa using rv⟩
  have nK : ∀ b ob, K.lookup b = some ob → H b = none := fun b ob e => by
    cases q : H b with
    | none => rfl
    | some u =>
      rcases Hat b u q with z | z
      · rw [kT b z.1] at e
        cases e
      · rw [z.1, z.2.1] at e
        cases e
  have noD : ∀ {b : Addr} {o : Obj}, sA.heap.get? b = some o → (∀ us n, o.data ≠ .seq us n) → o.data ≠ .fields #[] → H b = none := fun {b o} e h1 h2 => by
    cases q : H b with
    | none => rfl
    | some u =>
      rcases Hat b u q with z | z
      · rw [isT b z.1] at e
        cases e
        exact (h2 rfl).elim
      · rw [z.1, ha] at e
        cases e
        exact (h1 _ _ rfl).elim
  have back : ∀ {b : Addr} {o : Obj}, sA.heap.get? b = some o → H b = none → (hidT sA.heap H).get? b = some o := fun e n => hidT_get e n
  have nsK : ∀ {b : Addr} {m : Str → Option Value}, sA.heap.Ns b m → (hidT sA.heap H).Ns b m := fun {b m} ⟨o, es, ep, e, d, r⟩ => ⟨o, es, ep, back e (noD e (fun us n z => by rw [d] at z; cases z) (fun z => by rw [d] at z; cases z)), d, r⟩
  have hKb : K.In (hidT sA.heap H) := fun b o e => back (kxA b o e) (nK b o e)
  have hM : L2.Mod K mg (hidT sA.heap H) := ⟨hKb, nsK nsM, ⟨mb, nsK hb, bltE⟩, let ⟨mc, h1, h2⟩ := limA; ⟨mc, nsK h1, h2⟩⟩
  have TB : ∀ p ∈ cs, LamX.TabB (hidT sA.heap H) mg p.1 p.2 := fun p hp => by
    refine ⟨?_, ?_, fun z => ?_⟩
    · have ⟨o, us, file, tf, flags, tg, inF, text, tt, e1, r1, r2, r3, r⟩ := C p hp
      refine ⟨o, us, file, tf, flags, tg, inF, text, tt, back e1 (noD e1 (fun us' n z => ?_) fun z => ?_), r1, r2, r3, r⟩
      · rw [r2] at z
        cases z
      · rw [r2] at z
        cases z
        simp at r3
    · obtain ⟨bm, ob, b1, b2, b3, b4, b5, b6⟩ := modB
      refine ⟨bm, ob, b1, b2, fun q => ?_, fun q => ?_, back b3 (noD b3 (fun us n z => ?_) fun z => ?_), b4, b5, b6⟩
      · obtain ⟨o, es, ep, e, d, _⟩ := nsM
        rw [q, e] at b3
        cases b3
        rw [d] at b6
        cases b6
      · rw [q, hT p hp] at b3
        cases b3
        cases b4
      · rw [b6] at z
        cases z
      · rw [b6] at z
        cases z
    · obtain ⟨o, es, ep, e, d, _⟩ := nsM
      rw [z, hT p hp] at e
      cases e
      cases d
  have e0 : Env0 P w K mg (hidT sA.heap H) callerA [] sA H := ⟨rfl, hM, fun b o e => of_hidT e, Nat.le_of_eq (hidT_size _ _), trivial, fun b hb => absurd (show b ∈ ([] : List Addr) from hb) (by simp), okA, .of_eq hg⟩
  refine codeAny_mono ((F _ hKb (nsK nsM) TB).run callerA [] sA H ⟨[.ref a], []⟩ [.ref a] [.ref a] _ _ hr e0 (hbind sA (.ref a)) (.cons rfl .nil) (hsp H HT hS)) fun r s' hx => ?_
  rcases r with e | fl
  · exact (noEsc H e s' hx).elim
  · cases fl with
    | ret u =>
      obtain ⟨v, H', os, bare, un, okN, r', q⟩ := hx
      have key : ∀ b o, b ∉ cs.map (·.2) → sA.heap.get? b = some o → s'.heap.get? b = some o := fun b o nb e => by
        cases z : H b with
        | none => exact un.keep b o e z (by intro y; exact absurd (show b ∈ ([] : List Addr) from y) (by simp)) (by simp)
        | some u2 =>
          rcases Hat b u2 z with y | ⟨y, _, rfl⟩
          · exact absurd y.1 nb
          · have f1 := (okA b _ z).1
            have f2 := (okN b _ (un.frzs b _ _ z)).1
            rw [e] at f1
            cases f1
            exact f2
      have kxN : K.In s'.heap := fun b o e => key b o (fun z => by rw [kT b z] at e; cases e) (kxA b o e)
      have more : ∀ p ∈ cs, ∃ xs : Array Value, s'.heap.get? p.2 = some (PySem.W.tabObj xs) := fun p hp => by
        obtain ⟨m, z⟩ := un.tbls p.2 #[] (HT p hp)
        exact ⟨_, okN p.2 _ z⟩
      obtain ⟨as, rdR⟩ := Dw.reads (R := R) (cl := cl) okN kxN d0 v u q r'
      refine ⟨u, as, rfl, rdR, ⟨fun b o e => ?_, fun b o e => ?_⟩, os, bare⟩
      · by_cases hb : b ∈ List.map (·.2) cs
        · obtain ⟨pr, hp, rfl⟩ := List.mem_map.mp hb
          obtain ⟨xs, hm⟩ := more pr hp
          rw [hT pr hp] at e
          cases e
          exact .inr (.inl ⟨((C pr hp).tab (hT pr hp)).isCodeTable, rfl, #[], xs, rfl, by rw [Array.empty_append]; exact hm⟩)
        · exact .inl (key b o hb e)
      · by_cases hb : b ∈ List.map (·.2) cs
        · obtain ⟨pr, hp, rfl⟩ := List.mem_map.mp hb
          obtain ⟨xs, hm⟩ := more pr hp
          exact ⟨_, hm⟩
        · exact ⟨o, key b o hb e⟩
    | next => exact hx.elim
    | brk => exact hx.elim
    | cont => exact hx.elim
/-- a def's code object and its table, by the def's name -/
structure TabOf (q : Program) (K : PySem.W.Frag) (c P : Addr) : Prop where
  ex : ∃ (x : Str) (d : DefRec), (PyProof.Rows.recsOf q).find? (fun e => e.name == x) = some d ∧ PySem.W.tabIn K x = some (c, P)
  no : K.lookup P = none
/-- walk_specK for one list of whole numbers, with tables -/
theorem walk_specT {r : OpenSpec} {k lo hi n : Nat} {il ih : Int} {q : Program} {loose : List Str} {XP : (Str → Option Value) → Heap → Prop} {YP : World → Heap → Prop} {d : DefRec} {K : Params → PySem.W.Frag} {CX : CXT} {x : Str} {sp : PySem.W.Frag → List (Addr × Addr) → Sp}
    (wellR : r.wellSaid = true) (noDf : d.params.defaults = []) (argR : r.args = [.list lo hi (.int il ih)]) (hiR : hi ≤ sizeLine) (hr : Room k callerA)
    (inY : ∀ (w : World) (h : Heap), YP w h → (K w.params).In h)
    (F : ∀ (w : World) (mg : Str → Option Value) (fa : Addr) (hp : Heap), YP w hp → (K w.params).In hp → hp.Ns mainGlobals mg → mg d.name = some (.ref fa) →
      ∃ (fd : FuncData) (cs : List (Addr × Addr)), (∀ p ∈ cs, TabOf q (K w.params) p.1 p.2) ∧ (∀ (s : Shared) (u : Value), BindsTo s fd ⟨[u], []⟩ [(x, u)]) ∧
        (∀ base : Heap, (K w.params).In base → base.Ns mainGlobals mg → (∀ p ∈ cs, LamX.TabB base mg p.1 p.2) → FnOk r.prog w (K w.params) mg base CX k fa fd [x] (sp (K w.params) cs)) ∧
        (∀ (H : Hp) (a : Addr) (ns : List Int) (b : Codec.denoteAll r.args), Codec.withinAll r.args b = true → Codec.app r.args r.asked b = true → Codec.encAll r.args b = [WData.list (ns.map WData.int)] → (∀ p ∈ cs, H p.2 = some (.tbl #[])) → SqL (K w.params) H a (ns.map V.int) →
          sp (K w.params) cs [.ref a] H (fun v H' => Dw (K w.params) H' v (r.ret.enc (Codec.app r.args r.f b))) fun _ _ _ => False))
    (noEsc : ∀ (H : Hp) (s : Shared) (e : Value) (s' : Shared), CX [] H s (fun _ _ _ => False) e s' → False) :
    PySem.W.WalkOS q loose XP YP r d [] (fun g us => PySem.call g us) := by
  intro w sO sA mg mb G Y fa o pm cd doc dV kV ho hd cdR dR mgR hg args vals as preR layR rdR wlR loR
  obtain ⟨b, e1, e2⟩ := PySem.W.os_pre_some preR
  obtain ⟨e3, wiR⟩ := Codec.encAll_of_decAll r.args args b e1
  subst e3
  have kxA := inY w _ Y
  obtain ⟨fd, cs, hcs, hb, hF, hsp⟩ := F w mg fa _ Y kxA G.T.g mgR
  obtain ⟨ns, nsM, hlen⟩ : ∃ ns : List Int, Codec.encAll r.args b = [WData.list (ns.map WData.int)] ∧ ns.length ≤ hi := by
    clear hsp e1 e2 preR layR rdR wlR hF
    generalize r.args = ra at b argR wiR ⊢
    subst argR
    have q : ((Codec.inLen lo hi b.1 && b.1.all (Codec.inInt il ih)) && true) = true := wiR
    simp only [Bool.and_eq_true] at q
    exact ⟨b.1, rfl, (Codec.inNat_iff.mp q.1.1).2⟩
  rw [nsM] at wlR
  obtain ⟨v, vr, rfl, w1, w2⟩ := well_cons wlR
  cases w2
  obtain ⟨a, vs, rfl, hobj, hall⟩ := well_list w1
  have hT : ∀ p ∈ cs, PySem.W.CodeHd sA.heap p.1 p.2 ∧ sA.heap.get? p.2 = some (PySem.W.tabObj #[]) := fun p hp => by
    obtain ⟨y, d', h1, h2⟩ := (hcs p hp).ex
    exact PySem.W.tab_of G.T kxA h1 h2
  refine PySem.W.enter_call (codeAny_mono (spec_callT (R := []) (cl := classAt sO.heap) (d0 := r.ret.enc (Codec.app r.args r.f b)) kxA G.T.g G.T.b G.T.builtins G.T.nolimit hg (fun p hp => (hT p hp).2) (fun p hp => (hcs p hp).no) (fun p hp => (hT p hp).1) G.T.bmain hobj (Att.ints_of_wellAll ns vs hall) (Nat.le_trans hlen hiR) hr hF hb
    (fun H hH hS => hsp H a ns b wiR e2 nsM hH hS) fun H e s' => noEsc H sA e s') fun r' s' hq => ?_)
  obtain ⟨u, asN, rfl, h1, h2, h3, h4⟩ := hq
  exact ⟨.inl ⟨u, _, asN, rfl, fun _ => rfl, h1, (OpenSpec.post_iff wellR wiR _ _).mpr rfl, fun z => Bool.noConfusion (show false = true from z)⟩, h2, h3, h4⟩
end PcR
/-! min(xs, default=None), for the hand layer: xs a list of whole numbers, empty or not. -/
namespace PcR
open L2 PyProof.Rows PySem.Spec PySem
/-- the least number of the list; None of none -/
def tMinD (K : PySem.W.Frag) (te : TE) : TE := fun σ H Q => te σ H fun x H1 => ∃ (a : Addr) (ns : List Int), x = .ref a ∧ SqL K H1 a (ns.map V.int) ∧ (ns = [] → Q .non H1) ∧ ∀ m, m ∈ ns → (∀ y, y ∈ ns → m ≤ y) → Q (.int m) H1
theorem readsAll_ints {h : Heap} : ∀ {us : List Value} {ns : List Int}, IntsAre us ns → ∃ as, ReadsAll h us (ns.map PyData.int) as
  | _, _, .nil => ⟨[], .nil⟩
  | _, _, .cons n t r => by
    obtain ⟨as, q⟩ := readsAll_ints (h := h) r
    exact ⟨_, .cons (.int n t) q⟩
theorem depth_ints : ∀ ns : List Int, PyData.depthAll (ns.map PyData.int) ≤ 1
  | [] => Nat.zero_le _
  | n :: ns => Nat.max_le.mpr ⟨Nat.le_of_ble_eq_true rfl, depth_ints ns⟩
theorem alike_ints (ns : List Int) : PySem.W.AlikeAll (ns.map PyData.int) := by
  refine ⟨fun x hx y hy => ?_, fun x hx => ?_⟩
  · obtain ⟨i, _, rfl⟩ := List.mem_map.mp hx
    obtain ⟨j, _, rfl⟩ := List.mem_map.mp hy
    rfl
  · obtain ⟨i, _, rfl⟩ := List.mem_map.mp hx
    exact fun z => by cases z
theorem least_fold : ∀ (ns : List Int) (n : Int), ns.foldl min n ∈ n :: ns ∧ ∀ y ∈ n :: ns, ns.foldl min n ≤ y
  | [], n => ⟨List.mem_cons_self .., fun y hy => by rw [List.mem_singleton.mp hy]; exact Int.le_refl _⟩
  | m :: ns, n => by
    obtain ⟨h1, h2⟩ := least_fold ns (min n m)
    rw [List.foldl_cons]
    refine ⟨?_, fun y hy => ?_⟩
    · rcases List.mem_cons.mp h1 with z | z
      · rw [z]
        rcases Int.le_total n m with q | q
        · rw [Int.min_eq_left q]
          exact List.mem_cons_self ..
        · rw [Int.min_eq_right q]
          exact List.mem_cons_of_mem _ (List.mem_cons_self ..)
      · exact List.mem_cons_of_mem _ (List.mem_cons_of_mem _ z)
    · have h3 := h2 _ (List.mem_cons_self ..)
      rcases List.mem_cons.mp hy with z | z
      · rw [z]
        exact Int.le_trans h3 (Int.min_le_left ..)
      · rcases (List.mem_cons).mp z with z | z
        · rw [z]
          exact Int.le_trans h3 (Int.min_le_right ..)
        · exact h2 y (List.mem_cons_of_mem _ z)
theorem pe_minD {X : Cx} {p cpos kpos pos : Pos} {e : Expr} {ck : Nat} {te : TE} {k : Nat} (hc : X.calm = true) (hr : Room k X.A) (hg : Gl X "min") (hm : X.mg "min" = none) (he : PE X e te)
    (hb1 : backTo pos (starEach [e] X.env) = (false, eval e X.env) :: backTo pos (starEach [] X.env) := by rfl) (hb2 : (backTo pos (starEach [e] X.env)).any (·.1) = false := by rfl) :
    PE X (.Call (.Name "min" p) [e] [⟨some "default", .Constant .none ck cpos, kpos⟩] pos) (tMinD X.K te) := by
  refine ⟨fun pn s σ H Q I h => ?_⟩
  refine wpAny_Call_Name_kw (ld_blt I hg hm (show bootBuiltins "min" = some (.builtin "min") by decide +kernel) ?_ (by decide) (by decide))
  refine PyProof.Rows.callWith_kw ?_ hb1 hb2 rfl rfl
  rw [hb1]
  refine Calls.spliced_cons (thn (he.run pn s σ H _ I h) fun u s1 ⟨x, H1, I1, r1, q1⟩ => ?_)
  refine Calls.spliced_nil ?_
  obtain ⟨l, ns, rfl, hl, q0, q⟩ := q1
  obtain rfl : u = .ref l := r1
  show wpAny _ _ (evalAll [do let v ← eval (.Constant .none ck cpos) X.env; standAt pos; pure v]) _ _ s1
  refine wpAny_evalAll_cons (wpAny_bind (Constant_none ?_))
  refine wpAny_bind (wpAny_standAt (wpAny_pure (wpAny_evalAll_nil ?_)))
  obtain ⟨its, rv, pl, hz⟩ := I1.list hl
  obtain ⟨as, rd⟩ := readsAll_ints (h := s1.heap) rv.ints
  have hu := hr.un
  refine PySem.W.min_list_default (I1.ok.hd hc) pl.isList (by simpa using rd) (alike_ints ns) ?_ (fun z h' tk hk => ?_) (fun y ys i v h' tk bs e hv rdv hk => ?_)
  · have := depth_ints ns
    omega
  · have e0 : ns = [] := List.map_eq_nil_iff.mp z
    exact ⟨.non, H1, I1.kept hk, rfl, q0 e0⟩
  · cases ns with
    | nil => cases e
    | cons n ns =>
      injection e with e1 e2
      subst e1
      subst e2
      rw [PySem.W.minD_ints] at rdv
      obtain ⟨m1, m2⟩ := least_fold ns n
      cases rdv with
      | int _ t => exact ⟨.int _, H1, I1.kept hk, ⟨t, rfl⟩, q _ m1 m2⟩
end PcR
namespace Pc
open PySem PySem.Spec PyProof.Rows L2 PcR PcM
/-! ### words for the module's defs and classes -/
def topS (i : Nat) : Stmt := PySem.Challenge.pw_placeclocks_s01_answers.main.body.getD i (.Pass ⟨0, 0, 0, 0⟩)
/-- the module's name x is the def that the text st writes -/
def Def (K : PySem.W.Frag) (mg : Str → Option Value) (x : Str) (st : Stmt) (ps : List Str) : Prop :=
  ∃ f fd, Fun K x x st f fd ∧ mg x = some (.ref f) ∧ Binds K fd ps []
/-- the class at C makes instances by the text st -/
def Ini (K : PySem.W.Frag) (qual : Str) (C : Addr) (st : Stmt) (ps : List Str) : Prop :=
  ∃ f fd, Fun K "__init__" qual st f fd ∧ Mk K C f ∧ Binds K fd ps []
/-- the class at C has the method that the text st writes -/
def Mth (K : PySem.W.Frag) (x qual : Str) (C : Addr) (st : Stmt) (ps : List Str) : Prop :=
  ∃ f fd, Fun K x qual st f fd ∧ Meth K C x f ∧ Binds K fd ps []
/-- the module's name x is a def that keeps the promise sp -/
def Is (P : Program) (w : World) (K : PySem.W.Frag) (mg : Str → Option Value) (base : Heap) (k : Nat) (x : Str) (ps : List Str) (sp : Sp) : Prop :=
  ∃ f fd, FnOk P w K mg base CX0 k f fd ps sp ∧ mg x = some (.ref f) ∧ PySem.W.keepIn K (.ref f) = true ∧ Binds K fd ps []
/-- the class at C is made as sp promises -/
def IsI (P : Program) (w : World) (K : PySem.W.Frag) (mg : Str → Option Value) (base : Heap) (k : Nat) (C : Addr) (ps : List Str) (sp : Sp) : Prop :=
  ∃ f fd, FnOk P w K mg base CX0 k f fd ps sp ∧ Mk K C f ∧ Binds K fd ps []
def IsM (P : Program) (w : World) (K : PySem.W.Frag) (mg : Str → Option Value) (base : Heap) (k : Nat) (C : Addr) (x : Str) (ps : List Str) (sp : Sp) : Prop :=
  ∃ f fd, FnOk P w K mg base CX0 k f fd ps sp ∧ Meth K C x f ∧ Binds K fd ps []
/-- a whole number of the module -/
def Cst (mg : Str → Option Value) (x : Str) (i : Int) : Prop := ∃ t, mg x = some (.int i t)
section
variable {X : Cx} {x : Str} {p pos apos cpos : Pos} {i : Int} {k : Nat} {C : Addr} {ps : List Str} {sp : Sp} {e o : Expr} {es : List Expr} {t : TA} {ta : TE}
theorem pe_cst (h : Cst X.mg x i) (hg : Gl X x) (hd : (x == ("__debug__" : Str)) = false := by decide) : PE X (.Name x pos) (tC (.int i)) := by
  obtain ⟨t, h⟩ := h
  exact pe_glob hg h ⟨t, rfl⟩ hd
theorem pe_gref {a : Addr} (h : X.mg x = some (.ref a)) (hg : Gl X x) (hd : (x == ("__debug__" : Str)) = false := by decide) : PE X (.Name x pos) (tC (.ref a)) := pe_glob (v := .ref a) hg h rfl hd
theorem pe_is (h : Is X.prog X.w X.K X.mg X.base k x ps sp) (hr : Room k X.A) (hg : Gl X x) (ha : PA X (e :: es) t) (hdb : (x == ("__debug__" : Str)) = false := by decide)
    (he : starEach (e :: es) X.env = (false, eval e X.env) :: starEach es X.env := by rfl) (hpl : (backTo pos (starEach es X.env)).any (·.1) = false := by rfl) : PE X (.Call (.Name x p) (e :: es) [] pos) (tCall sp [] E0 t) := by
  obtain ⟨f, fd, G, m, kp, b⟩ := h
  exact pe_call G hr hg m kp b .nil pass0 ha hdb he hpl
theorem pe_mk (h : IsI X.prog X.w X.K X.mg X.base k C ps sp) (hm : X.mg x = some (.ref C)) (hr : Room (k + 1) X.A) (hg : Gl X x) (ha : PA X (e :: es) t) (hdb : (x == ("__debug__" : Str)) = false := by decide)
    (he : starEach (e :: es) X.env = (false, eval e X.env) :: starEach es X.env := by rfl) (hpl : (backTo pos (starEach es X.env)).any (·.1) = false := by rfl) : PE X (.Call (.Name x p) (e :: es) [] pos) (tMake C sp [] E0 t) := by
  obtain ⟨f, fd, G, m, b⟩ := h
  exact pe_make m G hr hg hm b .nil pass0 ha hdb he hpl
theorem pe_mk0 (h : IsI X.prog X.w X.K X.mg X.base k C ps sp) (hm : X.mg x = some (.ref C)) (hr : Room (k + 1) X.A) (hg : Gl X x) (hdb : (x == ("__debug__" : Str)) = false := by decide) : PE X (.Call (.Name x p) [] [] pos) (tMake C sp [] E0 tNil) := by
  obtain ⟨f, fd, G, m, b⟩ := h
  exact pe_make0 m G hr hg hm b .nil pass0 hdb
theorem pe_mM {oe : Expr} {m : Str} {pl : Sem Bool} (ho : PE X oe ta) (c : Cls X.K C) (h : IsM X.prog X.w X.K X.mg X.base k C m ps sp) (hr : Room k X.A) (ha : PA X (e :: es) t)
    (hse : starEach (e :: es) X.env = (false, eval e X.env) :: starEach es X.env := by rfl) (hpl : (backTo pos (starEach es X.env)).any (·.1) = false := by rfl)
    (ht : eval (.Call (.Attribute oe m apos) (e :: es) [] pos) X.env = (do
      let ov ← eval oe X.env
      standAt apos.atName
      let (fn, recv) ← holding [ov] (getMethod ov m pl)
      callWith pos fn recv (backTo pos (starEach (e :: es) X.env)) (backToKw pos (keywordEach [] X.env))) := by rfl) : PE X (.Call (.Attribute oe m apos) (e :: es) [] pos) (tMeth C m sp [] E0 ta t) := by
  obtain ⟨f, fd, G, hm, b⟩ := h
  exact pe_meth (pl := pl) ho c hm G hr b .nil pass0 ha hse hpl ht
theorem pe_mM0 {oe : Expr} {m : Str} {pl : Sem Bool} (ho : PE X oe ta) (c : Cls X.K C) (h : IsM X.prog X.w X.K X.mg X.base k C m ps sp) (hr : Room k X.A)
    (ht : eval (.Call (.Attribute oe m apos) [] [] pos) X.env = (do
      let ov ← eval oe X.env
      standAt apos.atName
      let (fn, recv) ← holding [ov] (getMethod ov m pl)
      callWith pos fn recv (backTo pos (starEach [] X.env)) (backToKw pos (keywordEach [] X.env))) := by rfl) : PE X (.Call (.Attribute oe m apos) [] [] pos) (tMeth C m sp [] E0 ta tNil) := by
  obtain ⟨f, fd, G, hm, b⟩ := h
  exact pe_meth0 (pl := pl) ho c hm G hr b .nil pass0 ht
end
section
variable {P : Program} {w : World} {K : PySem.W.Frag} {mg : Str → Option Value} {base : Heap} {k : Nat} {x qual : Str} {st : Stmt} {ps : List Str} {sp : Sp} {C : Addr}
theorem Is.by (D : Def K mg x st ps) (h : ∀ f fd, Fun K x x st f fd → FnOk P w K mg base CX0 k f fd ps sp) : Is P w K mg base k x ps sp := by
  obtain ⟨f, fd, F, m, b⟩ := D
  exact ⟨f, fd, h f fd F, m, F.kp, b⟩
theorem IsI.by (D : Ini K qual C st ps) (h : ∀ f fd, Fun K "__init__" qual st f fd → FnOk P w K mg base CX0 k f fd ps sp) : IsI P w K mg base k C ps sp := by
  obtain ⟨f, fd, F, m, b⟩ := D
  exact ⟨f, fd, h f fd F, m, b⟩
theorem IsM.by (D : Mth K x qual C st ps) (h : ∀ f fd, Fun K x qual st f fd → FnOk P w K mg base CX0 k f fd ps sp) : IsM P w K mg base k C x ps sp := by
  obtain ⟨f, fd, F, m, b⟩ := D
  exact ⟨f, fd, h f fd F, m, b⟩
end
/-! ### readings -/
theorem scal_int {i j : Int} : scal (.int i) (.int j) = true := rfl
theorem lkh {k : Str} {v : V} {r : List (Str × V)} : List.lookup k ((k, v) :: r) = some v := by
  have e : (k == k) = true := beq_self_eq_true k
  simp only [List.lookup, e]
theorem lkp {k g : Str} {v : V} {r : List (Str × V)} (h : (k == g) = false) : List.lookup k ((g, v) :: r) = List.lookup k r := by
  simp only [List.lookup, h]
theorem puth {f : Str} {v x : V} {r : List (Str × V)} : putF f v ((f, x) :: r) = (f, v) :: r := if_pos rfl
theorem putp {f g : Str} {v x : V} {r : List (Str × V)} (h : ¬ g = f) : putF f v ((g, x) :: r) = (g, x) :: putF f v r := if_neg h
theorem same_new {H : Hp} {p : Addr} {o : HO} (h : H p = none) : Same H (upd H p o) := fun b x e => by
  rw [upd_ne (ne_of_none e h)]
  exact e
end Pc
namespace Pc
open PySem PySem.Spec PyProof.Rows L2 PcR PcM
/-! ### days -/
local macro_rules | `(tactic| k_sweep) => `(tactic| simp only [tSeq, tAsg, tOp, tUn, tVar, tC, rI0, rI, rU, rEq, rNe, gName, tIfS, tTest, tB, tAnd, tOr, tNot, tAndV, tOrV, tNotV, tChain, tRet, tNext, tDrop, tCall, tCons, tNil, tLst, scal_int, L2.start, List.map_cons, List.map_nil, List.length_cons, List.length_nil, List.replicate_succ, List.replicate_zero, List.cons_append, List.nil_append, List.append_nil, List.getElem?_cons_zero, List.getElem?_cons_succ, List.set_cons_zero, List.set_cons_succ, Option.some.injEq, V.int.injEq, V.bl.injEq, V.ref.injEq, List.cons.injEq, and_true, true_and, and_assoc, exists_and_left, exists_eq_left', exists_eq_left, exists_eq_right, Nat.reduceSub, Nat.zero_add, Nat.reduceAdd, decide_eq_true_eq, decide_true, decide_false, Bool.false_eq_true, if_true, if_false, ite_true, ite_false])
/-- what the module's names hold -/
structure Txt (mg : Str → Option Value) : Prop where
  g_MINUTES_OF_DAY : Cst mg "MINUTES_OF_DAY" 1440
  g_MOMENT_COUNT : Cst mg "MOMENT_COUNT" 52596000
  g_FIRST_YEAR : Cst mg "FIRST_YEAR" 2000
  g_DAYS_OF_FOUR_YEARS : Cst mg "DAYS_OF_FOUR_YEARS" 1461
  g_DAYS_OF_LEAP_YEAR : Cst mg "DAYS_OF_LEAP_YEAR" 366
  g_DAYS_OF_YEAR : Cst mg "DAYS_OF_YEAR" 365
  g_MOST_OFFSET : Cst mg "MOST_OFFSET" 840
  g_MOST_MORE : Cst mg "MOST_MORE" 120
  g_MOST_RANK : Cst mg "MOST_RANK" 4
  g_TURN_SIZE : Cst mg "TURN_SIZE" 5
  g_FURTHEST_BACK : Cst mg "FURTHEST_BACK" 1000
  g_PLACE : Cst mg "PLACE" 0
  g_DECREE : Cst mg "DECREE" 1
  g_SUMMER : Cst mg "SUMMER" 2
  g_DROP : Cst mg "DROP" 3
  g_OFFSET : Cst mg "OFFSET" 4
  g_SHOWS : Cst mg "SHOWS" 5
  g_MOMENTS : Cst mg "MOMENTS" 6
  g_MEANT : Cst mg "MEANT" 7
  g_CHANGE : Cst mg "CHANGE" 8
  g_KEEP : Cst mg "KEEP" 9
  g_WHEN : Cst mg "WHEN" 10
  g_THERE : Cst mg "THERE" 11
  g_OUT_OF_BOUNDS : Cst mg "OUT_OF_BOUNDS" (-1)
  g_NONE_SUCH : Cst mg "NONE_SUCH" (-3)
  g_NO_SUCH_DECREE : Cst mg "NO_SUCH_DECREE" (-4)
  g_NO_ROOM : Cst mg "NO_ROOM" (-5)
  g_NO_MOMENT : Cst mg "NO_MOMENT" (-6)
  g_MOST_PLACES : Cst mg "MOST_PLACES" 6
  g_MOST_DECREES : Cst mg "MOST_DECREES" 8
  g_MOST_KEPT : Cst mg "MOST_KEPT" 20
  g_OFFSET_ANSWERED_FOR_NONE : Cst mg "OFFSET_ANSWERED_FOR_NONE" 1000
  n_len : mg "len" = none
  n_range : mg "range" = none
  n_any : mg "any" = none
  n_set : mg "set" = none
  n_sorted : mg "sorted" = none
  n_min : mg "min" = none
  n_max : mg "max" = none
/-- the tuple of the module with the months' lengths -/
def LenT (K : PySem.W.Frag) (mg : Str → Option Value) : Prop := ∃ a, mg "MONTH_LENGTHS" = some (.ref a) ∧ ∀ H, SqT K H a ([31, 28, 31, 30, 31, 30, 31, 31, 30, 31, 30, 31].map V.int)
def spIsMoment : Sp := fun vs H Q _ => ∃ n : Int, vs = [.int n] ∧ Q (.bl (decide (0 ≤ n ∧ n < 52596000))) H
def spWeekday : Sp := fun vs H Q _ => ∃ d : Int, vs = [.int d] ∧ Q (.int ((d + 5) % 7 + 1)) H
def spYearOf : Sp := fun vs H Q _ => ∃ d : Int, vs = [.int d] ∧ 0 ≤ d ∧ Q (.int (2000 + (Cl01.yearOf d.toNat : Int))) H
def spMonthLength : Sp := fun vs H Q _ => ∃ Y M : Nat, vs = [.int (2000 + Y), .int M] ∧ 1 ≤ M ∧ M ≤ 12 ∧ Q (.int (Cl01.monthDays Y M)) H
def spFirstYear : Sp := fun vs H Q _ => ∃ Y : Nat, vs = [.int (2000 + Y)] ∧ Q (.int (Cl01.monthStart Y 1)) H
def spFirstMonth : Sp := fun vs H Q _ => ∃ Y M : Nat, vs = [.int (2000 + Y), .int M] ∧ 1 ≤ M ∧ M ≤ 12 ∧ Q (.int (Cl01.monthStart Y M)) H
def spDateOf : Sp := fun vs H Q _ => ∃ d : Nat, vs = [.int d] ∧ d < 36525 ∧ ∀ p, H p = none → Q (.ref p) (upd H p (.lst [.int (2000 + (Cl01.yearOf d : Int)), .int (Cl01.monthOf d), .int (Cl01.domOf d)]))
abbrev s_is_moment : Stmt := topS 8
abbrev N_is_moment : List Str := ["number"]
theorem sc_is_moment : FnScope ["number"] ["number"] (defScope s_is_moment) := ⟨rfl, rfl, rfl, by decide +kernel, rfl, by decide +kernel, by decide +kernel⟩
abbrev s_weekday_of : Stmt := topS 9
abbrev N_weekday_of : List Str := ["day"]
theorem sc_weekday_of : FnScope ["day"] ["day"] (defScope s_weekday_of) := ⟨rfl, rfl, rfl, by decide +kernel, rfl, by decide +kernel, by decide +kernel⟩
abbrev s_year_of : Stmt := topS 10
abbrev N_year_of : List Str := ["day", "first", "rest"]
theorem sc_year_of : FnScope ["day", "first", "rest"] ["day"] (defScope s_year_of) := ⟨rfl, rfl, rfl, by decide +kernel, rfl, by decide +kernel, by decide +kernel⟩
abbrev s_month_length : Stmt := topS 11
abbrev N_month_length : List Str := ["year", "month"]
theorem sc_month_length : FnScope ["year", "month"] ["year", "month"] (defScope s_month_length) := ⟨rfl, rfl, rfl, by decide +kernel, rfl, by decide +kernel, by decide +kernel⟩
abbrev s_first_day_of_year : Stmt := topS 12
abbrev N_first_day_of_year : List Str := ["year", "years", "leap_years"]
theorem sc_first_day_of_year : FnScope ["year", "years", "leap_years"] ["year"] (defScope s_first_day_of_year) := ⟨rfl, rfl, rfl, by decide +kernel, rfl, by decide +kernel, by decide +kernel⟩
abbrev s_first_day_of_month : Stmt := topS 13
abbrev N_first_day_of_month : List Str := ["year", "month", "day", "earlier"]
theorem sc_first_day_of_month : FnScope ["year", "month", "day", "earlier"] ["year", "month"] (defScope s_first_day_of_month) := ⟨rfl, rfl, rfl, by decide +kernel, rfl, by decide +kernel, by decide +kernel⟩
abbrev s_date_of : Stmt := topS 14
abbrev N_date_of : List Str := ["day", "year", "month", "rest"]
theorem sc_date_of : FnScope ["day", "year", "month", "rest"] ["day"] (defScope s_date_of) := ⟨rfl, rfl, rfl, by decide +kernel, rfl, by decide +kernel, by decide +kernel⟩
section
variable {w : World} {P : Program} {K : PySem.W.Frag} {mg : Str → Option Value} {base : Heap}
theorem ok_is_moment (T : Txt mg) (D : Def K mg "is_moment" s_is_moment ["number"]) : Is P w K mg base 1 "is_moment" ["number"] spIsMoment := by
  refine Is.by D fun f fd F => F.ok sc_is_moment (fun vs H Q E h => ?_) (fun cdv A outer s H vs Q E hr h => ?_)
  · obtain ⟨d, rfl, _⟩ := h
    rfl
  · obtain ⟨n, rfl, q⟩ := h
    refine ⟨_, (pss_one (ps_ret (pe_chain op_le op_lt pe_int (pv 0) (pe_cst T.g_MOMENT_COUNT rfl)))), ?_⟩
    k_sweep
    by_cases h0 : 0 ≤ n
    · rw [if_pos h0]
      simp only [h0, true_and] at q
      exact q
    · rw [if_neg h0]
      simp only [h0, false_and, decide_false] at q
      exact q
theorem ok_weekday_of (D : Def K mg "weekday_of" s_weekday_of ["day"]) : Is P w K mg base 1 "weekday_of" ["day"] spWeekday := by
  refine Is.by D fun f fd F => F.ok sc_weekday_of (fun vs H Q E h => ?_) (fun cdv A outer s H vs Q E hr h => ?_)
  · obtain ⟨d, rfl, _⟩ := h
    rfl
  · obtain ⟨d, rfl, q⟩ := h
    refine ⟨_, (pss_one (ps_ret (pe_op op_add (pe_op op_mod (pe_op op_add (pv 0) pe_int) pe_int) pe_int))), ?_⟩
    k_sweep
    exact ⟨by decide, q⟩
theorem ok_year_of (T : Txt mg) (D : Def K mg "year_of" s_year_of ["day"]) : Is P w K mg base 1 "year_of" ["day"] spYearOf := by
  refine Is.by D fun f fd F => F.ok sc_year_of (fun vs H Q E h => ?_) (fun cdv A outer s H vs Q E hr h => ?_)
  · obtain ⟨d, rfl, _⟩ := h
    rfl
  · obtain ⟨d, rfl, h0, q⟩ := h
    refine ⟨_, (pss_cons (ps_set (i := 1) sc_year_of.nd rfl (Or.inl rfl) (pe_op op_add (pe_cst T.g_FIRST_YEAR rfl) (pe_op op_mul (pe_op op_fdiv (pv 0) (pe_cst T.g_DAYS_OF_FOUR_YEARS rfl)) pe_int)))
    (pss_cons (ps_set (i := 2) sc_year_of.nd rfl (Or.inl rfl) (pe_op op_mod (pv 0) (pe_cst T.g_DAYS_OF_FOUR_YEARS rfl)))
    (pss_cons (ps_if (pt_cmpR op_lt (pv 2) (pe_cst T.g_DAYS_OF_LEAP_YEAR rfl) (nomark _)) (pss_one (ps_ret (pv 1))) pss_nil)
    (pss_one (ps_ret (pe_op op_add (pe_op op_add (pv 1) pe_int) (pe_op op_fdiv (pe_op op_sub (pv 2) (pe_cst T.g_DAYS_OF_LEAP_YEAR rfl)) (pe_cst T.g_DAYS_OF_YEAR rfl)))))))), ?_⟩
    k_sweep
    refine ⟨⟨by decide, by decide⟩, .inr (by decide), by decide, ?_⟩
    obtain ⟨n, rfl⟩ : ∃ n : Nat, d = (n : Int) := ⟨d.toNat, by omega⟩
    have e : ((n : Int)).toNat = n := rfl
    rw [e] at q
    unfold Cl01.yearOf at q
    split
    · rw [if_pos (by omega)] at q
      have z : (2000 + ((4 * (n / 1461) + 0 : Nat) : Int)) = 2000 + (n : Int) / 1461 * 4 := by omega
      rw [← z]
      exact q
    · rw [if_neg (by omega)] at q
      have z : (2000 + ((4 * (n / 1461) + (1 + (n % 1461 - 366) / 365) : Nat) : Int)) = 2000 + (n : Int) / 1461 * 4 + 1 + ((n : Int) % 1461 - 366) / 365 := by omega
      rw [← z]
      exact ⟨⟨by decide, by decide⟩, q⟩
theorem ok_month_length (L : LenT K mg) (D : Def K mg "month_length" s_month_length ["year", "month"]) : Is P w K mg base 1 "month_length" ["year", "month"] spMonthLength := by
  obtain ⟨a, h_MONTH_LENGTHS, hL⟩ := L
  refine Is.by D fun f fd F => F.ok sc_month_length (fun vs H Q E h => ?_) (fun cdv A outer s H vs Q E hr h => ?_)
  · obtain ⟨_, _, rfl, _⟩ := h
    rfl
  · obtain ⟨Y, M, rfl, m1, m12, q⟩ := h
    refine ⟨_, (pss_cons (ps_if (PW.pt (pw_and (pt_cmpR op_eq (pv 1) pe_int (nomark _)) (pw_and1 (pt_cmpR op_eq (pe_op op_mod (pv 0) pe_int) pe_int (nomark _))))) (pss_one (ps_ret pe_int)) pss_nil)
    (pss_one (ps_ret (pe_ix ix_tup (pe_gref h_MONTH_LENGTHS rfl) (pe_op op_sub (pv 1) pe_int) (fun _ _ => rfl))))), ?_⟩
    k_sweep
    by_cases h2 : M = 2
    · subst h2
      rw [monthDays_two] at q
      rw [if_pos (show ((2 : Nat) : Int) = 2 from rfl)]
      refine ⟨by decide, ?_⟩
      by_cases h4 : Y % 4 = 0
      · rw [if_pos h4] at q
        rw [if_pos (by omega)]
        exact q
      · rw [if_neg h4] at q
        rw [if_neg (by omega)]
        exact ⟨a, _, 1, .int 28, rfl, rfl, hL _, rfl, q⟩
    · rw [if_neg (by omega)]
      have e : (M : Int) - 1 = ((M - 1 : Nat) : Int) := by omega
      have g : ([31, 28, 31, 30, 31, 30, 31, 31, 30, 31, 30, 31].map V.int)[M - 1]? = some (.int (Cl01.monthDays Y M)) := by
        clear q hr e
        have : M = 1 ∨ M = 3 ∨ M = 4 ∨ M = 5 ∨ M = 6 ∨ M = 7 ∨ M = 8 ∨ M = 9 ∨ M = 10 ∨ M = 11 ∨ M = 12 := by omega
        rcases this with rfl | rfl | rfl | rfl | rfl | rfl | rfl | rfl | rfl | rfl | rfl <;> rfl
      exact ⟨a, _, _, .int (Cl01.monthDays Y M), rfl, rfl, hL _, e ▸ atI_nat g, q⟩
theorem ok_first_day_of_year (T : Txt mg) (D : Def K mg "first_day_of_year" s_first_day_of_year ["year"]) : Is P w K mg base 1 "first_day_of_year" ["year"] spFirstYear := by
  refine Is.by D fun f fd F => F.ok sc_first_day_of_year (fun vs H Q E h => ?_) (fun cdv A outer s H vs Q E hr h => ?_)
  · obtain ⟨_, rfl, _⟩ := h
    rfl
  · obtain ⟨Y, rfl, q⟩ := h
    refine ⟨_, (pss_cons (ps_set (i := 1) sc_first_day_of_year.nd rfl (Or.inl rfl) (pe_op op_sub (pv 0) (pe_cst T.g_FIRST_YEAR rfl)))
    (pss_cons (ps_set (i := 2) sc_first_day_of_year.nd rfl (Or.inl rfl) (pe_op op_fdiv (pe_op op_add (pv 1) pe_int) pe_int))
    (pss_one (ps_ret (pe_op op_add (pe_op op_mul (pv 1) (pe_cst T.g_DAYS_OF_YEAR rfl)) (pv 2)))))), ?_⟩
    k_sweep
    refine ⟨⟨by decide, by decide⟩, .inr (by decide), ?_⟩
    rw [monthStart_one] at q
    have z : ((365 * Y + (Y + 3) / 4 : Nat) : Int) = (2000 + (Y : Int) - 2000) * 365 + (2000 + (Y : Int) - 2000 + 3) / 4 := by omega
    rw [← z]
    exact q
theorem ok_first_day_of_month (T : Txt mg) (I_first_day_of_year : Is P w K mg base 1 "first_day_of_year" ["year"] spFirstYear) (I_month_length : Is P w K mg base 1 "month_length" ["year", "month"] spMonthLength)
    (D : Def K mg "first_day_of_month" s_first_day_of_month ["year", "month"]) : Is P w K mg base 2 "first_day_of_month" ["year", "month"] spFirstMonth := by
  refine Is.by D fun f fd F => F.ok sc_first_day_of_month (fun vs H Q E h => ?_) (fun cdv A outer s H vs Q E hr h => ?_)
  · obtain ⟨_, _, rfl, _⟩ := h
    rfl
  · obtain ⟨Y, M, rfl, m1, m12, q⟩ := h
    refine ⟨_, (pss_cons (ps_set (i := 2) sc_first_day_of_month.nd rfl (Or.inl rfl) (pe_is I_first_day_of_year (hr.mono (by decide)) rfl (pa_cons (pv 0) pa_nil)))
    (pss_cons (ps_for PassesOwn.never rfl (pi_range2 (by rfl) T.n_range (pa_cons pe_int (pa_cons (pv 1) pa_nil))) (pg_name (i := 3) sc_first_day_of_month.nd rfl (Or.inl rfl)) (pss_one (ps_set (i := 2) sc_first_day_of_month.nd rfl (Or.inl rfl) (pe_op op_add (pv 2) (pe_is I_month_length (hr.mono (by decide)) rfl (pa_cons (pv 0) (pa_cons (pv 3) pa_nil)))))))
    (pss_one (ps_ret (pv 2))))), ?_⟩
    k_sweep
    refine ⟨Y, rfl, ?_⟩
    refine ⟨_, rfl, 1, M, rfl, by omega, for_range (lo := 1) (n := ((M : Int) - 1).toNat) (fun i σ H' => ∃ v, σ = [some (.int (2000 + Y)), some (.int M), some (.int (Cl01.monthStart Y (i + 1))), v] ∧ H' = H) ⟨none, rfl, rfl⟩ ?_ ?_⟩
    · rintro i σ H' hi ⟨v, rfl, rfl⟩
      k_sweep
      refine ⟨Y, i + 1, ?_, by omega, by omega, ?_⟩
      · rw [show (1 : Int) + i = ((i + 1 : Nat) : Int) by omega]
      · k_sweep
        rw [monthStart_succ Y (i + 1) (by omega)]
        omega
    · rintro σ H' ⟨v, rfl, rfl⟩
      k_sweep
      rw [show ((M : Int) - 1).toNat + 1 = M by omega]
      exact q
theorem ok_date_of (T : Txt mg) (I_year_of : Is P w K mg base 1 "year_of" ["day"] spYearOf) (I_first_day_of_year : Is P w K mg base 1 "first_day_of_year" ["year"] spFirstYear) (I_month_length : Is P w K mg base 1 "month_length" ["year", "month"] spMonthLength)
    (D : Def K mg "date_of" s_date_of ["day"]) : Is P w K mg base 2 "date_of" ["day"] spDateOf := by
  refine Is.by D fun f fd F => F.ok sc_date_of (fun vs H Q E h => ?_) (fun cdv A outer s H vs Q E hr h => ?_)
  · obtain ⟨_, rfl, _⟩ := h
    rfl
  · obtain ⟨d, rfl, hd, q⟩ := h
    refine ⟨_, (pss_cons (ps_set (i := 1) sc_date_of.nd rfl (Or.inl rfl) (pe_is I_year_of (hr.mono (by decide)) rfl (pa_cons (pv 0) pa_nil)))
    (pss_cons (ps_set (i := 2) sc_date_of.nd rfl (Or.inl rfl) pe_int)
    (pss_cons (ps_set (i := 3) sc_date_of.nd rfl (Or.inl rfl) (pe_op op_sub (pv 0) (pe_is I_first_day_of_year (hr.mono (by decide)) rfl (pa_cons (pv 1) pa_nil))))
    (pss_cons (ps_while PassesOwn.never (pt_cmpR op_ge (pv 3) (pe_is I_month_length (hr.mono (by decide)) rfl (pa_cons (pv 1) (pa_cons (pv 2) pa_nil))) (nomark _)) (pss_cons (ps_set (i := 3) sc_date_of.nd rfl (Or.inl rfl) (pe_op op_sub (pv 3) (pe_is I_month_length (hr.mono (by decide)) rfl (pa_cons (pv 1) (pa_cons (pv 2) pa_nil)))))
    (pss_one (ps_set (i := 2) sc_date_of.nd rfl (Or.inl rfl) (pe_op op_add (pv 2) pe_int)))))
    (pss_one (ps_ret (pe_lst (pa_cons (pv 1) (pa_cons (pv 2) (pa_cons (pe_op op_add (pv 3) pe_int) pa_nil)))))))))), ?_⟩
    k_sweep
    refine ⟨d, rfl, by omega, ?_⟩
    have hy : ((d : Int)).toNat = d := rfl
    rw [hy]
    have y1 := yearOf_ge d
    have y2 := yearOf_lt d
    rw [← monthStart_13] at y2
    obtain ⟨Y, hY⟩ : ∃ Y, Cl01.yearOf d = Y := ⟨_, rfl⟩
    rw [hY] at y1 y2 q ⊢
    refine ⟨Y, rfl, ?_⟩
    k_sweep
    refine ⟨fun m σ H' => ∃ M R : Nat, σ = [some (.int d), some (.int (2000 + Y)), some (.int M), some (.int R)] ∧ H' = H ∧ 1 ≤ M ∧ M ≤ 12 ∧ Cl01.monthStart Y M + R = d ∧ m = 12 - M,
      ⟨11, 1, d - Cl01.monthStart Y 1, ?_, rfl, by omega, by omega, by omega, rfl⟩, ?_⟩
    · rw [show ((d - Cl01.monthStart Y 1 : Nat) : Int) = (d : Int) - (Cl01.monthStart Y 1 : Int) by omega]
      rfl
    rintro m σ H' ⟨M, R, rfl, rfl, m1, m12, hR, rfl⟩
    k_sweep
    refine ⟨Y, M, rfl, m1, m12, ?_⟩
    k_sweep
    have st := monthStart_succ Y M m1
    by_cases hl : ((Cl01.monthDays Y M : Nat) : Int) ≤ R
    · rw [if_pos hl]
      have m11 : M ≤ 11 := by
        rcases Nat.lt_or_ge M 12 with z | z
        · omega
        · obtain rfl : M = 12 := by omega
          have st2 : Cl01.monthStart Y 13 = _ := monthStart_succ Y 12 (by omega)
          omega
      obtain ⟨N, hN⟩ : ∃ N : L2.St → Hp → Prop, N = fun σ' H1 => ∃ M' R' : Nat, σ' = [some (.int d), some (.int (2000 + Y)), some (.int M'), some (.int R')] ∧ H1 = H' ∧ M' = M + 1 ∧ Cl01.monthStart Y M' + R' = d := ⟨_, rfl⟩
      refine ⟨N, ?_, ?_⟩
      · rw [hN]
        rintro σ' H1 ⟨M', R', rfl, rfl, rfl, hR'⟩
        exact ⟨12 - (M + 1), by omega, M + 1, R', rfl, rfl, by omega, by omega, hR', rfl⟩
      · refine ⟨Y, M, rfl, m1, m12, ?_⟩
        k_sweep
        rw [hN]
        refine ⟨M + 1, R - Cl01.monthDays Y M, ?_, rfl, rfl, by omega⟩
        rw [show ((R - Cl01.monthDays Y M : Nat) : Int) = (R : Int) - (Cl01.monthDays Y M : Int) by omega]
        rfl
    · rw [if_neg hl]
      refine ⟨by show 3 ≤ sizeLine; decide, fun p hp => ?_⟩
      have em : Cl01.monthOf d = M := monthOf_eq m1 m12 (by rw [hY]; omega) (by rw [hY]; omega)
      have ed : Cl01.domOf d = R + 1 := by
        unfold Cl01.domOf
        rw [em, hY]
        omega
      have q' := q p hp
      rw [em, ed] at q'
      exact q'
end
end Pc
namespace Pc
open PySem PySem.Spec PyProof.Rows L2 PcR PcM
open Cl02 (Turn Decree Place)
/-! ### decrees -/
theorem nox_K (X : Cx) : X.nox.K = X.K := rfl
theorem cxOf_K {CX : CXT} {P : Program} {w : World} {K : PySem.W.Frag} {mg : Str → Option Value} {base : Heap} {N : List Str} {q : Str} {sc : Scope} {f : Addr} {cd : Value} {A : Around} {outer : List Env} {s : Shared} {H : Hp} {E : XK} : (cxOf CX P w K mg base N q sc f cd A outer s H E).K = K := rfl
theorem lk_Turn_from_end {x0 x1 x2 x3 x4 : V} : List.lookup ("from_end" : Str) ([("from_end", x0), ("rank", x1), ("weekday", x2), ("month", x3), ("minute", x4)] : List (Str × V)) = some x0 := lkh
theorem pn_Turn_from_end { v : V} : putF ("from_end" : Str) v ([] : List (Str × V)) = ([("from_end", v)] : List (Str × V)) := rfl
theorem pu_Turn_from_end {x0 x1 x2 x3 x4 v : V} : putF ("from_end" : Str) v ([("from_end", x0), ("rank", x1), ("weekday", x2), ("month", x3), ("minute", x4)] : List (Str × V)) = ([("from_end", v), ("rank", x1), ("weekday", x2), ("month", x3), ("minute", x4)] : List (Str × V)) := puth
theorem lk_Turn_rank {x0 x1 x2 x3 x4 : V} : List.lookup ("rank" : Str) ([("from_end", x0), ("rank", x1), ("weekday", x2), ("month", x3), ("minute", x4)] : List (Str × V)) = some x1 := (lkp (show (("rank" : Str) == "from_end") = false by decide +kernel)).trans (lkh)
theorem pn_Turn_rank {x0 v : V} : putF ("rank" : Str) v ([("from_end", x0)] : List (Str × V)) = ([("from_end", x0), ("rank", v)] : List (Str × V)) := (putp (show ¬ ("from_end" : Str) = "rank" by decide +kernel)).trans (congrArg _ (rfl))
theorem pu_Turn_rank {x0 x1 x2 x3 x4 v : V} : putF ("rank" : Str) v ([("from_end", x0), ("rank", x1), ("weekday", x2), ("month", x3), ("minute", x4)] : List (Str × V)) = ([("from_end", x0), ("rank", v), ("weekday", x2), ("month", x3), ("minute", x4)] : List (Str × V)) := (putp (show ¬ ("from_end" : Str) = "rank" by decide +kernel)).trans (congrArg _ (puth))
theorem lk_Turn_weekday {x0 x1 x2 x3 x4 : V} : List.lookup ("weekday" : Str) ([("from_end", x0), ("rank", x1), ("weekday", x2), ("month", x3), ("minute", x4)] : List (Str × V)) = some x2 := (lkp (show (("weekday" : Str) == "from_end") = false by decide +kernel)).trans ((lkp (show (("weekday" : Str) == "rank") = false by decide +kernel)).trans (lkh))
theorem pn_Turn_weekday {x0 x1 v : V} : putF ("weekday" : Str) v ([("from_end", x0), ("rank", x1)] : List (Str × V)) = ([("from_end", x0), ("rank", x1), ("weekday", v)] : List (Str × V)) := (putp (show ¬ ("from_end" : Str) = "weekday" by decide +kernel)).trans (congrArg _ ((putp (show ¬ ("rank" : Str) = "weekday" by decide +kernel)).trans (congrArg _ (rfl))))
theorem pu_Turn_weekday {x0 x1 x2 x3 x4 v : V} : putF ("weekday" : Str) v ([("from_end", x0), ("rank", x1), ("weekday", x2), ("month", x3), ("minute", x4)] : List (Str × V)) = ([("from_end", x0), ("rank", x1), ("weekday", v), ("month", x3), ("minute", x4)] : List (Str × V)) := (putp (show ¬ ("from_end" : Str) = "weekday" by decide +kernel)).trans (congrArg _ ((putp (show ¬ ("rank" : Str) = "weekday" by decide +kernel)).trans (congrArg _ (puth))))
theorem lk_Turn_month {x0 x1 x2 x3 x4 : V} : List.lookup ("month" : Str) ([("from_end", x0), ("rank", x1), ("weekday", x2), ("month", x3), ("minute", x4)] : List (Str × V)) = some x3 := (lkp (show (("month" : Str) == "from_end") = false by decide +kernel)).trans ((lkp (show (("month" : Str) == "rank") = false by decide +kernel)).trans ((lkp (show (("month" : Str) == "weekday") = false by decide +kernel)).trans (lkh)))
theorem pn_Turn_month {x0 x1 x2 v : V} : putF ("month" : Str) v ([("from_end", x0), ("rank", x1), ("weekday", x2)] : List (Str × V)) = ([("from_end", x0), ("rank", x1), ("weekday", x2), ("month", v)] : List (Str × V)) := (putp (show ¬ ("from_end" : Str) = "month" by decide +kernel)).trans (congrArg _ ((putp (show ¬ ("rank" : Str) = "month" by decide +kernel)).trans (congrArg _ ((putp (show ¬ ("weekday" : Str) = "month" by decide +kernel)).trans (congrArg _ (rfl))))))
theorem pu_Turn_month {x0 x1 x2 x3 x4 v : V} : putF ("month" : Str) v ([("from_end", x0), ("rank", x1), ("weekday", x2), ("month", x3), ("minute", x4)] : List (Str × V)) = ([("from_end", x0), ("rank", x1), ("weekday", x2), ("month", v), ("minute", x4)] : List (Str × V)) := (putp (show ¬ ("from_end" : Str) = "month" by decide +kernel)).trans (congrArg _ ((putp (show ¬ ("rank" : Str) = "month" by decide +kernel)).trans (congrArg _ ((putp (show ¬ ("weekday" : Str) = "month" by decide +kernel)).trans (congrArg _ (puth))))))
theorem lk_Turn_minute {x0 x1 x2 x3 x4 : V} : List.lookup ("minute" : Str) ([("from_end", x0), ("rank", x1), ("weekday", x2), ("month", x3), ("minute", x4)] : List (Str × V)) = some x4 := (lkp (show (("minute" : Str) == "from_end") = false by decide +kernel)).trans ((lkp (show (("minute" : Str) == "rank") = false by decide +kernel)).trans ((lkp (show (("minute" : Str) == "weekday") = false by decide +kernel)).trans ((lkp (show (("minute" : Str) == "month") = false by decide +kernel)).trans (lkh))))
theorem pn_Turn_minute {x0 x1 x2 x3 v : V} : putF ("minute" : Str) v ([("from_end", x0), ("rank", x1), ("weekday", x2), ("month", x3)] : List (Str × V)) = ([("from_end", x0), ("rank", x1), ("weekday", x2), ("month", x3), ("minute", v)] : List (Str × V)) := (putp (show ¬ ("from_end" : Str) = "minute" by decide +kernel)).trans (congrArg _ ((putp (show ¬ ("rank" : Str) = "minute" by decide +kernel)).trans (congrArg _ ((putp (show ¬ ("weekday" : Str) = "minute" by decide +kernel)).trans (congrArg _ ((putp (show ¬ ("month" : Str) = "minute" by decide +kernel)).trans (congrArg _ (rfl))))))))
theorem pu_Turn_minute {x0 x1 x2 x3 x4 v : V} : putF ("minute" : Str) v ([("from_end", x0), ("rank", x1), ("weekday", x2), ("month", x3), ("minute", x4)] : List (Str × V)) = ([("from_end", x0), ("rank", x1), ("weekday", x2), ("month", x3), ("minute", v)] : List (Str × V)) := (putp (show ¬ ("from_end" : Str) = "minute" by decide +kernel)).trans (congrArg _ ((putp (show ¬ ("rank" : Str) = "minute" by decide +kernel)).trans (congrArg _ ((putp (show ¬ ("weekday" : Str) = "minute" by decide +kernel)).trans (congrArg _ ((putp (show ¬ ("month" : Str) = "minute" by decide +kernel)).trans (congrArg _ (puth))))))))
/-- the class Turn -/
structure IsTurn (K : PySem.W.Frag) (mg : Str → Option Value) (C : Addr) : Prop where
  cl : Cls K C
  at_ : mg "Turn" = some (.ref C)
  n_from_end : NoAttr K C "from_end"
  n_rank : NoAttr K C "rank"
  n_weekday : NoAttr K C "weekday"
  n_month : NoAttr K C "month"
  n_minute : NoAttr K C "minute"
theorem lk_Summer_more {x0 x1 x2 : V} : List.lookup ("more" : Str) ([("more", x0), ("begins", x1), ("ends", x2)] : List (Str × V)) = some x0 := lkh
theorem pn_Summer_more { v : V} : putF ("more" : Str) v ([] : List (Str × V)) = ([("more", v)] : List (Str × V)) := rfl
theorem pu_Summer_more {x0 x1 x2 v : V} : putF ("more" : Str) v ([("more", x0), ("begins", x1), ("ends", x2)] : List (Str × V)) = ([("more", v), ("begins", x1), ("ends", x2)] : List (Str × V)) := puth
theorem lk_Summer_begins {x0 x1 x2 : V} : List.lookup ("begins" : Str) ([("more", x0), ("begins", x1), ("ends", x2)] : List (Str × V)) = some x1 := (lkp (show (("begins" : Str) == "more") = false by decide +kernel)).trans (lkh)
theorem pn_Summer_begins {x0 v : V} : putF ("begins" : Str) v ([("more", x0)] : List (Str × V)) = ([("more", x0), ("begins", v)] : List (Str × V)) := (putp (show ¬ ("more" : Str) = "begins" by decide +kernel)).trans (congrArg _ (rfl))
theorem pu_Summer_begins {x0 x1 x2 v : V} : putF ("begins" : Str) v ([("more", x0), ("begins", x1), ("ends", x2)] : List (Str × V)) = ([("more", x0), ("begins", v), ("ends", x2)] : List (Str × V)) := (putp (show ¬ ("more" : Str) = "begins" by decide +kernel)).trans (congrArg _ (puth))
theorem lk_Summer_ends {x0 x1 x2 : V} : List.lookup ("ends" : Str) ([("more", x0), ("begins", x1), ("ends", x2)] : List (Str × V)) = some x2 := (lkp (show (("ends" : Str) == "more") = false by decide +kernel)).trans ((lkp (show (("ends" : Str) == "begins") = false by decide +kernel)).trans (lkh))
theorem pn_Summer_ends {x0 x1 v : V} : putF ("ends" : Str) v ([("more", x0), ("begins", x1)] : List (Str × V)) = ([("more", x0), ("begins", x1), ("ends", v)] : List (Str × V)) := (putp (show ¬ ("more" : Str) = "ends" by decide +kernel)).trans (congrArg _ ((putp (show ¬ ("begins" : Str) = "ends" by decide +kernel)).trans (congrArg _ (rfl))))
theorem pu_Summer_ends {x0 x1 x2 v : V} : putF ("ends" : Str) v ([("more", x0), ("begins", x1), ("ends", x2)] : List (Str × V)) = ([("more", x0), ("begins", x1), ("ends", v)] : List (Str × V)) := (putp (show ¬ ("more" : Str) = "ends" by decide +kernel)).trans (congrArg _ ((putp (show ¬ ("begins" : Str) = "ends" by decide +kernel)).trans (congrArg _ (puth))))
/-- the class Summer -/
structure IsSummer (K : PySem.W.Frag) (mg : Str → Option Value) (C : Addr) : Prop where
  cl : Cls K C
  at_ : mg "Summer" = some (.ref C)
  n_more : NoAttr K C "more"
  n_begins : NoAttr K C "begins"
  n_ends : NoAttr K C "ends"
theorem lk_Decree_moment {x0 x1 x2 : V} : List.lookup ("moment" : Str) ([("moment", x0), ("offset", x1), ("summer", x2)] : List (Str × V)) = some x0 := lkh
theorem pn_Decree_moment { v : V} : putF ("moment" : Str) v ([] : List (Str × V)) = ([("moment", v)] : List (Str × V)) := rfl
theorem pu_Decree_moment {x0 x1 x2 v : V} : putF ("moment" : Str) v ([("moment", x0), ("offset", x1), ("summer", x2)] : List (Str × V)) = ([("moment", v), ("offset", x1), ("summer", x2)] : List (Str × V)) := puth
theorem lk_Decree_offset {x0 x1 x2 : V} : List.lookup ("offset" : Str) ([("moment", x0), ("offset", x1), ("summer", x2)] : List (Str × V)) = some x1 := (lkp (show (("offset" : Str) == "moment") = false by decide +kernel)).trans (lkh)
theorem pn_Decree_offset {x0 v : V} : putF ("offset" : Str) v ([("moment", x0)] : List (Str × V)) = ([("moment", x0), ("offset", v)] : List (Str × V)) := (putp (show ¬ ("moment" : Str) = "offset" by decide +kernel)).trans (congrArg _ (rfl))
theorem pu_Decree_offset {x0 x1 x2 v : V} : putF ("offset" : Str) v ([("moment", x0), ("offset", x1), ("summer", x2)] : List (Str × V)) = ([("moment", x0), ("offset", v), ("summer", x2)] : List (Str × V)) := (putp (show ¬ ("moment" : Str) = "offset" by decide +kernel)).trans (congrArg _ (puth))
theorem lk_Decree_summer {x0 x1 x2 : V} : List.lookup ("summer" : Str) ([("moment", x0), ("offset", x1), ("summer", x2)] : List (Str × V)) = some x2 := (lkp (show (("summer" : Str) == "moment") = false by decide +kernel)).trans ((lkp (show (("summer" : Str) == "offset") = false by decide +kernel)).trans (lkh))
theorem pn_Decree_summer {x0 x1 v : V} : putF ("summer" : Str) v ([("moment", x0), ("offset", x1)] : List (Str × V)) = ([("moment", x0), ("offset", x1), ("summer", v)] : List (Str × V)) := (putp (show ¬ ("moment" : Str) = "summer" by decide +kernel)).trans (congrArg _ ((putp (show ¬ ("offset" : Str) = "summer" by decide +kernel)).trans (congrArg _ (rfl))))
theorem pu_Decree_summer {x0 x1 x2 v : V} : putF ("summer" : Str) v ([("moment", x0), ("offset", x1), ("summer", x2)] : List (Str × V)) = ([("moment", x0), ("offset", x1), ("summer", v)] : List (Str × V)) := (putp (show ¬ ("moment" : Str) = "summer" by decide +kernel)).trans (congrArg _ ((putp (show ¬ ("offset" : Str) = "summer" by decide +kernel)).trans (congrArg _ (puth))))
/-- the class Decree -/
structure IsDecree (K : PySem.W.Frag) (mg : Str → Option Value) (C : Addr) : Prop where
  cl : Cls K C
  at_ : mg "Decree" = some (.ref C)
  n_moment : NoAttr K C "moment"
  n_offset : NoAttr K C "offset"
  n_summer : NoAttr K C "summer"
theorem ixl {K : PySem.W.Frag} {l : Addr} {H : Hp} {xs : List V} {j : Nat} {v : V} {Q : VK} (h : SqL K H l xs) (hv : xs[j]? = some v) (q : Q v H) : rIxL K (.ref l) (.int (j : Int)) H Q := ⟨l, xs, _, v, rfl, rfl, h, atI_nat hv, q⟩
theorem sql_upd {K : PySem.W.Frag} {l p : Addr} {H : Hp} {xs : List V} {o : HO} (n : l ≠ p) (h : SqL K H l xs) : SqL K (upd H p o) l xs := by
  rcases h with (h | ⟨z, h⟩) | h
  · exact .inl (.inl (by rw [upd_ne n]; exact h))
  · exact .inl (.inr ⟨z, by rw [upd_ne n]; exact h⟩)
  · exact .inr h
/-! how they lie in the heap -/
abbrev tF (t : Turn) : List (Str × V) := [("from_end", .int (if t.back = true then 1 else 0)), ("rank", .int t.k), ("weekday", .int (t.w + 1)), ("month", .int t.month), ("minute", .int t.minute)]
def TurnAt (C : Addr) (H : Hp) (p : Addr) (t : Turn) : Prop := ∃ dx, H p = some (.ins C dx (tF t))
def SumAt (cT cS : Addr) (H : Hp) (p : Addr) (x : Nat) (a b : Turn) : Prop := ∃ dx pa pb, H p = some (.ins cS dx [("more", .int x), ("begins", .ref pa), ("ends", .ref pb)]) ∧ TurnAt cT H pa a ∧ TurnAt cT H pb b
/-- the third field of a decree -/
def SumV (cT cS : Addr) (H : Hp) (v : V) : Option (Nat × Turn × Turn) → Prop
  | none => v = .non
  | some (x, a, b) => ∃ p, v = .ref p ∧ SumAt cT cS H p x a b
def DecAt (cT cS cD : Addr) (H : Hp) (p : Addr) (d : Decree) : Prop := ∃ dx v, H p = some (.ins cD dx [("moment", .int d.from_), ("offset", .int d.offset), ("summer", v)]) ∧ SumV cT cS H v d.summer
theorem TurnAt.same {C : Addr} {H H' : Hp} {p : Addr} {t : Turn} (s : Same H H') (h : TurnAt C H p t) : TurnAt C H' p t := by
  obtain ⟨dx, h⟩ := h
  exact ⟨dx, s _ _ h⟩
theorem SumAt.same {cT cS : Addr} {H H' : Hp} {p : Addr} {x : Nat} {a b : Turn} (s : Same H H') (h : SumAt cT cS H p x a b) : SumAt cT cS H' p x a b := by
  obtain ⟨dx, pa, pb, h, ha, hb⟩ := h
  exact ⟨dx, pa, pb, s _ _ h, ha.same s, hb.same s⟩
theorem SumV.same {cT cS : Addr} {H H' : Hp} {v : V} {o : Option (Nat × Turn × Turn)} (s : Same H H') (h : SumV cT cS H v o) : SumV cT cS H' v o := by
  cases o with
  | none => exact h
  | some q =>
    obtain ⟨p, e, h⟩ := h
    exact ⟨p, e, h.same s⟩
theorem DecAt.same {cT cS cD : Addr} {H H' : Hp} {p : Addr} {d : Decree} (s : Same H H') (h : DecAt cT cS cD H p d) : DecAt cT cS cD H' p d := by
  obtain ⟨dx, v, h, hv⟩ := h
  exact ⟨dx, v, s _ _ h, hv.same s⟩
/-! promises -/
def spIsOffset : Sp := fun vs H Q _ => ∃ n : Int, vs = [.int n] ∧ Q (.bl (Cl02.isOffset n)) H
def spIsMore : Sp := fun vs H Q _ => ∃ n : Int, vs = [.int n] ∧ Q (.bl (decide (1 ≤ n ∧ n ≤ 120))) H
abbrev natV (ns : List Nat) : List V := ns.map fun (n : Nat) => V.int n
def spIsTurn (K : PySem.W.Frag) : Sp := fun vs H Q _ => ∃ (l : Addr) (ns : List Nat), vs = [.ref l] ∧ SqL K H l (natV ns) ∧ Q (.bl (Cl02.turnOf ns).isSome) H
def spTurnInit (K : PySem.W.Frag) (C : Addr) : Sp := fun vs H Q _ => ∃ (p dx l : Addr) (ns : List Nat) (t : Turn), vs = [.ref p, .ref l] ∧ H p = some (.ins C dx []) ∧ SqL K H l (natV ns) ∧ l ≠ p ∧ Cl02.turnOf ns = some t ∧
  ∀ H' : Hp, H' p = some (.ins C dx (tF t)) → (∀ b, b ≠ p → H' b = H b) → Q .non H'
def spSummerInit (C : Addr) : Sp := fun vs H Q _ => ∃ (p dx : Addr) (x y z : V), vs = [.ref p, x, y, z] ∧ H p = some (.ins C dx []) ∧
  ∀ H' : Hp, H' p = some (.ins C dx [("more", x), ("begins", y), ("ends", z)]) → (∀ b, b ≠ p → H' b = H b) → Q .non H'
def spDecreeInit (C : Addr) : Sp := fun vs H Q _ => ∃ (p dx : Addr) (x y z : V), vs = [.ref p, x, y, z] ∧ H p = some (.ins C dx []) ∧
  ∀ H' : Hp, H' p = some (.ins C dx [("moment", x), ("offset", y), ("summer", z)]) → (∀ b, b ≠ p → H' b = H b) → Q .non H'
def spDayOfTurn (C : Addr) : Sp := fun vs H Q _ => ∃ (p : Addr) (t : Turn) (Y : Nat), vs = [.ref p, .int (2000 + Y)] ∧ TurnAt C H p t ∧ OkT t ∧ Q (.int (turnDay Y t)) H
def spMomentOfTurn (C : Addr) : Sp := fun vs H Q _ => ∃ (p : Addr) (t : Turn) (Y : Nat), vs = [.ref p, .int (2000 + Y)] ∧ TurnAt C H p t ∧ OkT t ∧ Q (.int (Cl02.turnAt Y t)) H
def spIsSummer (cT cS : Addr) : Sp := fun vs H Q _ => ∃ (p : Addr) (x : Nat) (a b : Turn) (u : Nat), vs = [.ref p, .int u] ∧ SumAt cT cS H p x a b ∧ OkT a ∧ OkT b ∧ Q (.bl (inSummer a b u)) H
def spAheadBy (cT cS cD : Addr) : Sp := fun vs H Q _ => ∃ (p : Addr) (d : Decree) (u : Nat), vs = [.ref p, .int u] ∧ DecAt cT cS cD H p d ∧ OkD d ∧ Q (.int (Cl02.ahead d u)) H
/-- by how much clocks may be ahead by a decree -/
def aheads (d : Decree) : List Int := match d.summer with
  | none => [d.offset]
  | some (x, _, _) => [d.offset, d.offset + (x : Int)]
def spPossible (cT cS cD : Addr) : Sp := fun vs H Q _ => ∃ (p : Addr) (d : Decree), vs = [.ref p] ∧ DecAt cT cS cD H p d ∧ ∀ q, H q = none → Q (.ref q) (upd H q (.lst ((aheads d).map V.int)))
abbrev s_Turn_init : Stmt := inClass (topS 20) 0
abbrev N_Turn_init : List Str := ["self", "row"]
theorem sc_Turn_init : FnScope ["self", "row"] ["self", "row"] (defScope s_Turn_init) := ⟨rfl, rfl, rfl, by decide +kernel, rfl, by decide +kernel, by decide +kernel⟩
abbrev s_Summer_init : Stmt := inClass (topS 21) 0
abbrev N_Summer_init : List Str := ["self", "more", "begins", "ends"]
theorem sc_Summer_init : FnScope ["self", "more", "begins", "ends"] ["self", "more", "begins", "ends"] (defScope s_Summer_init) := ⟨rfl, rfl, rfl, by decide +kernel, rfl, by decide +kernel, by decide +kernel⟩
abbrev s_Decree_init : Stmt := inClass (topS 22) 0
abbrev N_Decree_init : List Str := ["self", "moment", "offset", "summer"]
theorem sc_Decree_init : FnScope ["self", "moment", "offset", "summer"] ["self", "moment", "offset", "summer"] (defScope s_Decree_init) := ⟨rfl, rfl, rfl, by decide +kernel, rfl, by decide +kernel, by decide +kernel⟩
abbrev s_is_offset : Stmt := topS 23
abbrev N_is_offset : List Str := ["number"]
theorem sc_is_offset : FnScope ["number"] ["number"] (defScope s_is_offset) := ⟨rfl, rfl, rfl, by decide +kernel, rfl, by decide +kernel, by decide +kernel⟩
abbrev s_is_more : Stmt := topS 24
abbrev N_is_more : List Str := ["number"]
theorem sc_is_more : FnScope ["number"] ["number"] (defScope s_is_more) := ⟨rfl, rfl, rfl, by decide +kernel, rfl, by decide +kernel, by decide +kernel⟩
abbrev s_is_turn : Stmt := topS 25
abbrev N_is_turn : List Str := ["row"]
theorem sc_is_turn : FnScope ["row"] ["row"] (defScope s_is_turn) := ⟨rfl, rfl, rfl, by decide +kernel, rfl, by decide +kernel, by decide +kernel⟩
abbrev s_day_of_turn : Stmt := topS 26
abbrev N_day_of_turn : List Str := ["turn", "year", "weeks", "first", "last"]
theorem sc_day_of_turn : FnScope ["turn", "year", "weeks", "first", "last"] ["turn", "year"] (defScope s_day_of_turn) := ⟨rfl, rfl, rfl, by decide +kernel, rfl, by decide +kernel, by decide +kernel⟩
abbrev s_moment_of_turn : Stmt := topS 27
abbrev N_moment_of_turn : List Str := ["turn", "year"]
theorem sc_moment_of_turn : FnScope ["turn", "year"] ["turn", "year"] (defScope s_moment_of_turn) := ⟨rfl, rfl, rfl, by decide +kernel, rfl, by decide +kernel, by decide +kernel⟩
abbrev s_is_summer : Stmt := topS 28
abbrev N_is_summer : List Str := ["summer", "moment", "year", "beginning", "end"]
theorem sc_is_summer : FnScope ["summer", "moment", "year", "beginning", "end"] ["summer", "moment"] (defScope s_is_summer) := ⟨rfl, rfl, rfl, by decide +kernel, rfl, by decide +kernel, by decide +kernel⟩
abbrev s_ahead_by : Stmt := topS 30
abbrev N_ahead_by : List Str := ["decree", "moment"]
theorem sc_ahead_by : FnScope ["decree", "moment"] ["decree", "moment"] (defScope s_ahead_by) := ⟨rfl, rfl, rfl, by decide +kernel, rfl, by decide +kernel, by decide +kernel⟩
abbrev s_possible_aheads : Stmt := topS 31
abbrev N_possible_aheads : List Str := ["decree"]
theorem sc_possible_aheads : FnScope ["decree"] ["decree"] (defScope s_possible_aheads) := ⟨rfl, rfl, rfl, by decide +kernel, rfl, by decide +kernel, by decide +kernel⟩
section
variable {P : Program} {w : World} {K : PySem.W.Frag} {mg : Str → Option Value} {base : Heap} {cT cS cD : Addr}
theorem ok_is_offset (T : Txt mg) (D : Def K mg "is_offset" s_is_offset ["number"]) : Is P w K mg base 1 "is_offset" ["number"] spIsOffset := by
  refine Is.by D fun f fd F => F.ok sc_is_offset (fun vs H Q E h => ?_) (fun cdv A outer s H vs Q E hr h => ?_)
  · obtain ⟨_, rfl, _⟩ := h
    rfl
  · obtain ⟨n, rfl, q⟩ := h
    refine ⟨_, (pss_one (ps_ret (pe_chain op_le op_le (pe_un un_neg (pe_cst T.g_MOST_OFFSET rfl)) (pv 0) (pe_cst T.g_MOST_OFFSET rfl)))), ?_⟩
    simp only [tSeq, tAsg, tOp, tUn, tVar, tC, rI0, rI, rU, rEq, rNe, gName, tIfS, tTest, tB, tAnd, tOr, tNot, tAndV, tOrV, tNotV, tChain, tRet, tRetN, tNext, tDrop, tCall, tCons, tNil, tLst, tFld, sFld, scal_int, L2.start, List.map_cons, List.map_nil, List.length_cons, List.length_nil, List.replicate_succ, List.replicate_zero, List.cons_append, List.nil_append, List.append_nil, List.getElem?_cons_zero, List.getElem?_cons_succ, List.set_cons_zero, List.set_cons_succ, Option.some.injEq, V.int.injEq, V.bl.injEq, V.ref.injEq, HO.ins.injEq, HO.lst.injEq, List.cons.injEq, and_true, true_and, and_assoc, exists_and_left, exists_eq_left', exists_eq_left, exists_eq_right, Nat.reduceSub, Nat.zero_add, Nat.reduceAdd, Nat.reduceLT, decide_eq_true_eq, decide_true, decide_false, Bool.false_eq_true, if_true, if_false, ite_true, ite_false, nox_K, cxOf_K]
    unfold Cl02.isOffset at q
    by_cases h : -840 ≤ n
    · rw [if_pos h]
      rw [decide_eq_true h, Bool.true_and] at q
      exact q
    · rw [if_neg h]
      rw [decide_eq_false h, Bool.false_and] at q
      exact q
theorem ok_is_more (T : Txt mg) (D : Def K mg "is_more" s_is_more ["number"]) : Is P w K mg base 1 "is_more" ["number"] spIsMore := by
  refine Is.by D fun f fd F => F.ok sc_is_more (fun vs H Q E h => ?_) (fun cdv A outer s H vs Q E hr h => ?_)
  · obtain ⟨_, rfl, _⟩ := h
    rfl
  · obtain ⟨n, rfl, q⟩ := h
    refine ⟨_, (pss_one (ps_ret (pe_chain op_le op_le pe_int (pv 0) (pe_cst T.g_MOST_MORE rfl)))), ?_⟩
    simp only [tSeq, tAsg, tOp, tUn, tVar, tC, rI0, rI, rU, rEq, rNe, gName, tIfS, tTest, tB, tAnd, tOr, tNot, tAndV, tOrV, tNotV, tChain, tRet, tRetN, tNext, tDrop, tCall, tCons, tNil, tLst, tFld, sFld, scal_int, L2.start, List.map_cons, List.map_nil, List.length_cons, List.length_nil, List.replicate_succ, List.replicate_zero, List.cons_append, List.nil_append, List.append_nil, List.getElem?_cons_zero, List.getElem?_cons_succ, List.set_cons_zero, List.set_cons_succ, Option.some.injEq, V.int.injEq, V.bl.injEq, V.ref.injEq, HO.ins.injEq, HO.lst.injEq, List.cons.injEq, and_true, true_and, and_assoc, exists_and_left, exists_eq_left', exists_eq_left, exists_eq_right, Nat.reduceSub, Nat.zero_add, Nat.reduceAdd, Nat.reduceLT, decide_eq_true_eq, decide_true, decide_false, Bool.false_eq_true, if_true, if_false, ite_true, ite_false, nox_K, cxOf_K]
    by_cases h : 1 ≤ n
    · rw [if_pos h]
      simp only [h, true_and] at q
      exact q
    · rw [if_neg h]
      simp only [h, false_and, decide_false] at q
      exact q
theorem ok_Turn_init (cTurn : IsTurn K mg cT) (D : Ini K "Turn.__init__" cT s_Turn_init ["self", "row"]) : IsI P w K mg base 1 cT ["self", "row"] (spTurnInit K cT) := by
  refine IsI.by D fun f fd F => F.ok sc_Turn_init (fun vs H Q E h => ?_) (fun cdv A outer s H vs Q E hr h => ?_)
  · obtain ⟨_, _, _, _, _, rfl, _⟩ := h
    rfl
  · obtain ⟨p, dx, l, ns, t, rfl, hp, hl, nlp, ht, q⟩ := h
    refine ⟨_, (pss_cons (ps_fld (pv 0) (pe_ix ix_list (pv 1) pe_int (fun _ _ => rfl)) rfl)
    (pss_cons (ps_fld (pv 0) (pe_ix ix_list (pv 1) pe_int (fun _ _ => rfl)) rfl)
    (pss_cons (ps_fld (pv 0) (pe_ix ix_list (pv 1) pe_int (fun _ _ => rfl)) rfl)
    (pss_cons (ps_fld (pv 0) (pe_ix ix_list (pv 1) pe_int (fun _ _ => rfl)) rfl)
    (pss_one (ps_fld (pv 0) (pe_ix ix_list (pv 1) pe_int (fun _ _ => rfl)) rfl)))))), ?_⟩
    obtain ⟨b, k, x, m, u, rfl, hb, hk, hk4, hx, hx7, hm, hm12, hu, rfl⟩ : ∃ b k x m u, ns = [b, k, x, m, u] ∧ b ≤ 1 ∧ 1 ≤ k ∧ k ≤ 4 ∧ 1 ≤ x ∧ x ≤ 7 ∧ 1 ≤ m ∧ m ≤ 12 ∧ u < 1440 ∧ t = ⟨b == 1, k, x - 1, m, u⟩ := by
      unfold Cl02.turnOf at ht
      split at ht
      · split at ht
        · rename_i b k w m t c
          obtain ⟨c1, c2, c3, c4, c5, c6, c7, c8⟩ := c
          exact ⟨_, _, _, _, _, rfl, c1, c2, c3, c4, c5, c6, c7, c8, (Option.some.inj ht).symm⟩
        · cases ht
      · cases ht
    simp only [tSeq, tAsg, tOp, tUn, tVar, tC, rI0, rI, rU, rEq, rNe, gName, tIfS, tTest, tB, tAnd, tOr, tNot, tAndV, tOrV, tNotV, tChain, tRet, tRetN, tNext, tDrop, tCall, tCons, tNil, tLst, tFld, sFld, scal_int, L2.start, List.map_cons, List.map_nil, List.length_cons, List.length_nil, List.replicate_succ, List.replicate_zero, List.cons_append, List.nil_append, List.append_nil, List.getElem?_cons_zero, List.getElem?_cons_succ, List.set_cons_zero, List.set_cons_succ, Option.some.injEq, V.int.injEq, V.bl.injEq, V.ref.injEq, HO.ins.injEq, HO.lst.injEq, List.cons.injEq, and_true, true_and, and_assoc, exists_and_left, exists_eq_left', exists_eq_left, exists_eq_right, Nat.reduceSub, Nat.zero_add, Nat.reduceAdd, Nat.reduceLT, decide_eq_true_eq, decide_true, decide_false, Bool.false_eq_true, if_true, if_false, ite_true, ite_false, nox_K, cxOf_K, hp, cTurn.cl, cTurn.n_from_end, cTurn.n_rank, cTurn.n_weekday, cTurn.n_month, cTurn.n_minute, lk_Turn_from_end, lk_Turn_rank, lk_Turn_weekday, lk_Turn_month, lk_Turn_minute, pn_Turn_from_end, pn_Turn_rank, pn_Turn_weekday, pn_Turn_month, pn_Turn_minute, pu_Turn_from_end, pu_Turn_rank, pu_Turn_weekday, pu_Turn_month, pu_Turn_minute]
    refine ixl (j := 0) hl rfl ?_
    simp only [tSeq, tAsg, tOp, tUn, tVar, tC, rI0, rI, rU, rEq, rNe, gName, tIfS, tTest, tB, tAnd, tOr, tNot, tAndV, tOrV, tNotV, tChain, tRet, tRetN, tNext, tDrop, tCall, tCons, tNil, tLst, tFld, sFld, scal_int, L2.start, List.map_cons, List.map_nil, List.length_cons, List.length_nil, List.replicate_succ, List.replicate_zero, List.cons_append, List.nil_append, List.append_nil, List.getElem?_cons_zero, List.getElem?_cons_succ, List.set_cons_zero, List.set_cons_succ, Option.some.injEq, V.int.injEq, V.bl.injEq, V.ref.injEq, HO.ins.injEq, HO.lst.injEq, List.cons.injEq, and_true, true_and, and_assoc, exists_and_left, exists_eq_left', exists_eq_left, exists_eq_right, Nat.reduceSub, Nat.zero_add, Nat.reduceAdd, Nat.reduceLT, decide_eq_true_eq, decide_true, decide_false, Bool.false_eq_true, if_true, if_false, ite_true, ite_false, nox_K, cxOf_K, hp, cTurn.cl, cTurn.n_from_end, cTurn.n_rank, cTurn.n_weekday, cTurn.n_month, cTurn.n_minute, lk_Turn_from_end, lk_Turn_rank, lk_Turn_weekday, lk_Turn_month, lk_Turn_minute, pn_Turn_from_end, pn_Turn_rank, pn_Turn_weekday, pn_Turn_month, pn_Turn_minute, pu_Turn_from_end, pu_Turn_rank, pu_Turn_weekday, pu_Turn_month, pu_Turn_minute]
    refine ixl (j := 1) (sql_upd nlp hl) rfl ?_
    simp only [tSeq, tAsg, tOp, tUn, tVar, tC, rI0, rI, rU, rEq, rNe, gName, tIfS, tTest, tB, tAnd, tOr, tNot, tAndV, tOrV, tNotV, tChain, tRet, tRetN, tNext, tDrop, tCall, tCons, tNil, tLst, tFld, sFld, scal_int, L2.start, List.map_cons, List.map_nil, List.length_cons, List.length_nil, List.replicate_succ, List.replicate_zero, List.cons_append, List.nil_append, List.append_nil, List.getElem?_cons_zero, List.getElem?_cons_succ, List.set_cons_zero, List.set_cons_succ, Option.some.injEq, V.int.injEq, V.bl.injEq, V.ref.injEq, HO.ins.injEq, HO.lst.injEq, List.cons.injEq, and_true, true_and, and_assoc, exists_and_left, exists_eq_left', exists_eq_left, exists_eq_right, Nat.reduceSub, Nat.zero_add, Nat.reduceAdd, Nat.reduceLT, decide_eq_true_eq, decide_true, decide_false, Bool.false_eq_true, if_true, if_false, ite_true, ite_false, nox_K, cxOf_K, upd_same, cTurn.cl, cTurn.n_from_end, cTurn.n_rank, cTurn.n_weekday, cTurn.n_month, cTurn.n_minute, lk_Turn_from_end, lk_Turn_rank, lk_Turn_weekday, lk_Turn_month, lk_Turn_minute, pn_Turn_from_end, pn_Turn_rank, pn_Turn_weekday, pn_Turn_month, pn_Turn_minute, pu_Turn_from_end, pu_Turn_rank, pu_Turn_weekday, pu_Turn_month, pu_Turn_minute]
    refine ixl (j := 2) (sql_upd nlp (sql_upd nlp hl)) rfl ?_
    simp only [tSeq, tAsg, tOp, tUn, tVar, tC, rI0, rI, rU, rEq, rNe, gName, tIfS, tTest, tB, tAnd, tOr, tNot, tAndV, tOrV, tNotV, tChain, tRet, tRetN, tNext, tDrop, tCall, tCons, tNil, tLst, tFld, sFld, scal_int, L2.start, List.map_cons, List.map_nil, List.length_cons, List.length_nil, List.replicate_succ, List.replicate_zero, List.cons_append, List.nil_append, List.append_nil, List.getElem?_cons_zero, List.getElem?_cons_succ, List.set_cons_zero, List.set_cons_succ, Option.some.injEq, V.int.injEq, V.bl.injEq, V.ref.injEq, HO.ins.injEq, HO.lst.injEq, List.cons.injEq, and_true, true_and, and_assoc, exists_and_left, exists_eq_left', exists_eq_left, exists_eq_right, Nat.reduceSub, Nat.zero_add, Nat.reduceAdd, Nat.reduceLT, decide_eq_true_eq, decide_true, decide_false, Bool.false_eq_true, if_true, if_false, ite_true, ite_false, nox_K, cxOf_K, upd_same, cTurn.cl, cTurn.n_from_end, cTurn.n_rank, cTurn.n_weekday, cTurn.n_month, cTurn.n_minute, lk_Turn_from_end, lk_Turn_rank, lk_Turn_weekday, lk_Turn_month, lk_Turn_minute, pn_Turn_from_end, pn_Turn_rank, pn_Turn_weekday, pn_Turn_month, pn_Turn_minute, pu_Turn_from_end, pu_Turn_rank, pu_Turn_weekday, pu_Turn_month, pu_Turn_minute]
    refine ixl (j := 3) (sql_upd nlp (sql_upd nlp (sql_upd nlp hl))) rfl ?_
    simp only [tSeq, tAsg, tOp, tUn, tVar, tC, rI0, rI, rU, rEq, rNe, gName, tIfS, tTest, tB, tAnd, tOr, tNot, tAndV, tOrV, tNotV, tChain, tRet, tRetN, tNext, tDrop, tCall, tCons, tNil, tLst, tFld, sFld, scal_int, L2.start, List.map_cons, List.map_nil, List.length_cons, List.length_nil, List.replicate_succ, List.replicate_zero, List.cons_append, List.nil_append, List.append_nil, List.getElem?_cons_zero, List.getElem?_cons_succ, List.set_cons_zero, List.set_cons_succ, Option.some.injEq, V.int.injEq, V.bl.injEq, V.ref.injEq, HO.ins.injEq, HO.lst.injEq, List.cons.injEq, and_true, true_and, and_assoc, exists_and_left, exists_eq_left', exists_eq_left, exists_eq_right, Nat.reduceSub, Nat.zero_add, Nat.reduceAdd, Nat.reduceLT, decide_eq_true_eq, decide_true, decide_false, Bool.false_eq_true, if_true, if_false, ite_true, ite_false, nox_K, cxOf_K, upd_same, cTurn.cl, cTurn.n_from_end, cTurn.n_rank, cTurn.n_weekday, cTurn.n_month, cTurn.n_minute, lk_Turn_from_end, lk_Turn_rank, lk_Turn_weekday, lk_Turn_month, lk_Turn_minute, pn_Turn_from_end, pn_Turn_rank, pn_Turn_weekday, pn_Turn_month, pn_Turn_minute, pu_Turn_from_end, pu_Turn_rank, pu_Turn_weekday, pu_Turn_month, pu_Turn_minute]
    refine ixl (j := 4) (sql_upd nlp (sql_upd nlp (sql_upd nlp (sql_upd nlp hl)))) rfl ?_
    simp only [tSeq, tAsg, tOp, tUn, tVar, tC, rI0, rI, rU, rEq, rNe, gName, tIfS, tTest, tB, tAnd, tOr, tNot, tAndV, tOrV, tNotV, tChain, tRet, tRetN, tNext, tDrop, tCall, tCons, tNil, tLst, tFld, sFld, scal_int, L2.start, List.map_cons, List.map_nil, List.length_cons, List.length_nil, List.replicate_succ, List.replicate_zero, List.cons_append, List.nil_append, List.append_nil, List.getElem?_cons_zero, List.getElem?_cons_succ, List.set_cons_zero, List.set_cons_succ, Option.some.injEq, V.int.injEq, V.bl.injEq, V.ref.injEq, HO.ins.injEq, HO.lst.injEq, List.cons.injEq, and_true, true_and, and_assoc, exists_and_left, exists_eq_left', exists_eq_left, exists_eq_right, Nat.reduceSub, Nat.zero_add, Nat.reduceAdd, Nat.reduceLT, decide_eq_true_eq, decide_true, decide_false, Bool.false_eq_true, if_true, if_false, ite_true, ite_false, nox_K, cxOf_K, upd_same, cTurn.cl, cTurn.n_from_end, cTurn.n_rank, cTurn.n_weekday, cTurn.n_month, cTurn.n_minute, lk_Turn_from_end, lk_Turn_rank, lk_Turn_weekday, lk_Turn_month, lk_Turn_minute, pn_Turn_from_end, pn_Turn_rank, pn_Turn_weekday, pn_Turn_month, pn_Turn_minute, pu_Turn_from_end, pu_Turn_rank, pu_Turn_weekday, pu_Turn_month, pu_Turn_minute]
    refine q _ ?_ ?_
    · rw [upd_same]
      have e1 : ((b : Nat) : Int) = if (b == 1) = true then 1 else 0 := by
        have : b = 0 ∨ b = 1 := by omega
        rcases this with rfl | rfl <;> rfl
      have e2 : ((x - 1 : Nat) : Int) + 1 = (x : Int) := by omega
      show _ = some (HO.ins cT dx [("from_end", .int (if (b == 1) = true then 1 else 0)), ("rank", .int k), ("weekday", .int (((x - 1 : Nat) : Int) + 1)), ("month", .int m), ("minute", .int u)])
      rw [← e1, e2]
    · intro b hb
      rw [upd_ne hb, upd_ne hb, upd_ne hb, upd_ne hb, upd_ne hb]
theorem ok_Summer_init (cSummer : IsSummer K mg cS) (D : Ini K "Summer.__init__" cS s_Summer_init ["self", "more", "begins", "ends"]) : IsI P w K mg base 1 cS ["self", "more", "begins", "ends"] (spSummerInit cS) := by
  refine IsI.by D fun f fd F => F.ok sc_Summer_init (fun vs H Q E h => ?_) (fun cdv A outer s H vs Q E hr h => ?_)
  · obtain ⟨_, _, _, _, _, rfl, _⟩ := h
    rfl
  · obtain ⟨p, dx, x, y, z, rfl, hp, q⟩ := h
    refine ⟨_, (pss_cons (ps_fld (pv 0) (pv 1) rfl)
    (pss_cons (ps_fld (pv 0) (pv 2) rfl)
    (pss_one (ps_fld (pv 0) (pv 3) rfl)))), ?_⟩
    simp only [tSeq, tAsg, tOp, tUn, tVar, tC, rI0, rI, rU, rEq, rNe, gName, tIfS, tTest, tB, tAnd, tOr, tNot, tAndV, tOrV, tNotV, tChain, tRet, tRetN, tNext, tDrop, tCall, tCons, tNil, tLst, tFld, sFld, scal_int, L2.start, List.map_cons, List.map_nil, List.length_cons, List.length_nil, List.replicate_succ, List.replicate_zero, List.cons_append, List.nil_append, List.append_nil, List.getElem?_cons_zero, List.getElem?_cons_succ, List.set_cons_zero, List.set_cons_succ, Option.some.injEq, V.int.injEq, V.bl.injEq, V.ref.injEq, HO.ins.injEq, HO.lst.injEq, List.cons.injEq, and_true, true_and, and_assoc, exists_and_left, exists_eq_left', exists_eq_left, exists_eq_right, Nat.reduceSub, Nat.zero_add, Nat.reduceAdd, Nat.reduceLT, decide_eq_true_eq, decide_true, decide_false, Bool.false_eq_true, if_true, if_false, ite_true, ite_false, nox_K, cxOf_K, hp, upd_same, cSummer.cl, cSummer.n_more, cSummer.n_begins, cSummer.n_ends, lk_Summer_more, lk_Summer_begins, lk_Summer_ends, pn_Summer_more, pn_Summer_begins, pn_Summer_ends, pu_Summer_more, pu_Summer_begins, pu_Summer_ends]
    refine q _ upd_same ?_
    intro b hb
    rw [upd_ne hb, upd_ne hb, upd_ne hb]
theorem ok_Decree_init (cDecree : IsDecree K mg cD) (D : Ini K "Decree.__init__" cD s_Decree_init ["self", "moment", "offset", "summer"]) : IsI P w K mg base 1 cD ["self", "moment", "offset", "summer"] (spDecreeInit cD) := by
  refine IsI.by D fun f fd F => F.ok sc_Decree_init (fun vs H Q E h => ?_) (fun cdv A outer s H vs Q E hr h => ?_)
  · obtain ⟨_, _, _, _, _, rfl, _⟩ := h
    rfl
  · obtain ⟨p, dx, x, y, z, rfl, hp, q⟩ := h
    refine ⟨_, (pss_cons (ps_fld (pv 0) (pv 1) rfl)
    (pss_cons (ps_fld (pv 0) (pv 2) rfl)
    (pss_one (ps_fld (pv 0) (pv 3) rfl)))), ?_⟩
    simp only [tSeq, tAsg, tOp, tUn, tVar, tC, rI0, rI, rU, rEq, rNe, gName, tIfS, tTest, tB, tAnd, tOr, tNot, tAndV, tOrV, tNotV, tChain, tRet, tRetN, tNext, tDrop, tCall, tCons, tNil, tLst, tFld, sFld, scal_int, L2.start, List.map_cons, List.map_nil, List.length_cons, List.length_nil, List.replicate_succ, List.replicate_zero, List.cons_append, List.nil_append, List.append_nil, List.getElem?_cons_zero, List.getElem?_cons_succ, List.set_cons_zero, List.set_cons_succ, Option.some.injEq, V.int.injEq, V.bl.injEq, V.ref.injEq, HO.ins.injEq, HO.lst.injEq, List.cons.injEq, and_true, true_and, and_assoc, exists_and_left, exists_eq_left', exists_eq_left, exists_eq_right, Nat.reduceSub, Nat.zero_add, Nat.reduceAdd, Nat.reduceLT, decide_eq_true_eq, decide_true, decide_false, Bool.false_eq_true, if_true, if_false, ite_true, ite_false, nox_K, cxOf_K, hp, upd_same, cDecree.cl, cDecree.n_moment, cDecree.n_offset, cDecree.n_summer, lk_Decree_moment, lk_Decree_offset, lk_Decree_summer, pn_Decree_moment, pn_Decree_offset, pn_Decree_summer, pu_Decree_moment, pu_Decree_offset, pu_Decree_summer]
    refine q _ upd_same ?_
    intro b hb
    rw [upd_ne hb, upd_ne hb, upd_ne hb]
theorem ok_is_turn (T : Txt mg) (D : Def K mg "is_turn" s_is_turn ["row"]) : Is P w K mg base 1 "is_turn" ["row"] (spIsTurn K) := by
  refine Is.by D fun f fd F => F.ok sc_is_turn (fun vs H Q E h => ?_) (fun cdv A outer s H vs Q E hr h => ?_)
  · obtain ⟨_, _, rfl, _⟩ := h
    rfl
  · obtain ⟨l, ns, rfl, hl, q⟩ := h
    refine ⟨_, (pss_cons (ps_if (pt_cmpR op_ne (pe_callB call_len_seq (by rfl) T.n_len PySem.boot_len (pa_cons (pv 0) pa_nil)) (pe_cst T.g_TURN_SIZE rfl) (nomark _)) (pss_one (ps_ret pe_bl)) pss_nil)
    (pss_cons (ps_if (pt_not (PW.pt (pw_and (pt_chain op_le op_le pe_int (pe_ix ix_list (pv 0) pe_int (fun _ _ => rfl)) pe_int) (pw_and1 (pt_chain op_le op_le pe_int (pe_ix ix_list (pv 0) pe_int (fun _ _ => rfl)) (pe_cst T.g_MOST_RANK rfl)))))) (pss_one (ps_ret pe_bl)) pss_nil)
    (pss_one (ps_ret (pe_and (pe_chain op_le op_le pe_int (pe_ix ix_list (pv 0) pe_int (fun _ _ => rfl)) pe_int) (pe_and (pe_chain op_le op_le pe_int (pe_ix ix_list (pv 0) pe_int (fun _ _ => rfl)) pe_int) (pe_one (pe_chain op_le op_lt pe_int (pe_ix ix_list (pv 0) pe_int (fun _ _ => rfl)) (pe_cst T.g_MINUTES_OF_DAY rfl))))))))), ?_⟩
    simp only [tSeq, tAsg, tOp, tUn, tVar, tC, rI0, rI, rU, rEq, rNe, gName, tIfS, tTest, tB, tAnd, tOr, tNot, tAndV, tOrV, tNotV, tChain, tRet, tRetN, tNext, tDrop, tCall, tCons, tNil, tLst, tFld, sFld, scal_int, L2.start, List.map_cons, List.map_nil, List.length_cons, List.length_nil, List.replicate_succ, List.replicate_zero, List.cons_append, List.nil_append, List.append_nil, List.getElem?_cons_zero, List.getElem?_cons_succ, List.set_cons_zero, List.set_cons_succ, Option.some.injEq, V.int.injEq, V.bl.injEq, V.ref.injEq, HO.ins.injEq, HO.lst.injEq, List.cons.injEq, and_true, true_and, and_assoc, exists_and_left, exists_eq_left', exists_eq_left, exists_eq_right, Nat.reduceSub, Nat.zero_add, Nat.reduceAdd, Nat.reduceLT, decide_eq_true_eq, decide_true, decide_false, Bool.false_eq_true, if_true, if_false, ite_true, ite_false, nox_K, cxOf_K, tCB]
    refine ⟨natV ns, .inl hl, ?_⟩
    by_cases h5 : ns.length = 5
    · obtain ⟨b, k, x, m, t, rfl⟩ : ∃ b k x m t, ns = [b, k, x, m, t] := by
        match ns, h5 with
        | [b, k, x, m, t], _ => exact ⟨b, k, x, m, t, rfl⟩
      have q' : Q (.bl (if b ≤ 1 ∧ 1 ≤ k ∧ k ≤ 4 ∧ 1 ≤ x ∧ x ≤ 7 ∧ 1 ≤ m ∧ m ≤ 12 ∧ t < 1440 then (some (⟨b == 1, k, x - 1, m, t⟩ : Turn)) else none).isSome) H := q
      have qf : ¬ (b ≤ 1 ∧ 1 ≤ k ∧ k ≤ 4 ∧ 1 ≤ x ∧ x ≤ 7 ∧ 1 ≤ m ∧ m ≤ 12 ∧ t < 1440) → Q (.bl false) H := fun c => by
        rw [if_neg c] at q'
        exact q'
      have e5 : (!decide (((natV [b, k, x, m, t]).length : Int) = 5)) = false := rfl
      rw [e5, if_neg Bool.false_ne_true]
      refine ixl (j := 0) hl rfl ?_
      simp only [tSeq, tAsg, tOp, tUn, tVar, tC, rI0, rI, rU, rEq, rNe, gName, tIfS, tTest, tB, tAnd, tOr, tNot, tAndV, tOrV, tNotV, tChain, tRet, tRetN, tNext, tDrop, tCall, tCons, tNil, tLst, tFld, sFld, scal_int, L2.start, List.map_cons, List.map_nil, List.length_cons, List.length_nil, List.replicate_succ, List.replicate_zero, List.cons_append, List.nil_append, List.append_nil, List.getElem?_cons_zero, List.getElem?_cons_succ, List.set_cons_zero, List.set_cons_succ, Option.some.injEq, V.int.injEq, V.bl.injEq, V.ref.injEq, HO.ins.injEq, HO.lst.injEq, List.cons.injEq, and_true, true_and, and_assoc, exists_and_left, exists_eq_left', exists_eq_left, exists_eq_right, Nat.reduceSub, Nat.zero_add, Nat.reduceAdd, Nat.reduceLT, decide_eq_true_eq, decide_true, decide_false, Bool.false_eq_true, if_true, if_false, ite_true, ite_false, nox_K, cxOf_K]
      rw [if_pos (Int.natCast_nonneg b)]
      by_cases hb : (b : Int) ≤ 1
      · rw [if_pos hb]
        refine ixl (j := 1) hl rfl ?_
        simp only [tSeq, tAsg, tOp, tUn, tVar, tC, rI0, rI, rU, rEq, rNe, gName, tIfS, tTest, tB, tAnd, tOr, tNot, tAndV, tOrV, tNotV, tChain, tRet, tRetN, tNext, tDrop, tCall, tCons, tNil, tLst, tFld, sFld, scal_int, L2.start, List.map_cons, List.map_nil, List.length_cons, List.length_nil, List.replicate_succ, List.replicate_zero, List.cons_append, List.nil_append, List.append_nil, List.getElem?_cons_zero, List.getElem?_cons_succ, List.set_cons_zero, List.set_cons_succ, Option.some.injEq, V.int.injEq, V.bl.injEq, V.ref.injEq, HO.ins.injEq, HO.lst.injEq, List.cons.injEq, and_true, true_and, and_assoc, exists_and_left, exists_eq_left', exists_eq_left, exists_eq_right, Nat.reduceSub, Nat.zero_add, Nat.reduceAdd, Nat.reduceLT, decide_eq_true_eq, decide_true, decide_false, Bool.false_eq_true, if_true, if_false, ite_true, ite_false, nox_K, cxOf_K]
        by_cases hk : (1 : Int) ≤ k
        · rw [if_pos hk]
          by_cases hk4 : (k : Int) ≤ 4
          · rw [decide_eq_true hk4, if_neg (by decide)]
            refine ixl (j := 2) hl rfl ?_
            simp only [tSeq, tAsg, tOp, tUn, tVar, tC, rI0, rI, rU, rEq, rNe, gName, tIfS, tTest, tB, tAnd, tOr, tNot, tAndV, tOrV, tNotV, tChain, tRet, tRetN, tNext, tDrop, tCall, tCons, tNil, tLst, tFld, sFld, scal_int, L2.start, List.map_cons, List.map_nil, List.length_cons, List.length_nil, List.replicate_succ, List.replicate_zero, List.cons_append, List.nil_append, List.append_nil, List.getElem?_cons_zero, List.getElem?_cons_succ, List.set_cons_zero, List.set_cons_succ, Option.some.injEq, V.int.injEq, V.bl.injEq, V.ref.injEq, HO.ins.injEq, HO.lst.injEq, List.cons.injEq, and_true, true_and, and_assoc, exists_and_left, exists_eq_left', exists_eq_left, exists_eq_right, Nat.reduceSub, Nat.zero_add, Nat.reduceAdd, Nat.reduceLT, decide_eq_true_eq, decide_true, decide_false, Bool.false_eq_true, if_true, if_false, ite_true, ite_false, nox_K, cxOf_K]
            by_cases hx : (1 : Int) ≤ x
            · rw [if_pos hx]
              by_cases hx7 : (x : Int) ≤ 7
              · rw [if_pos hx7]
                refine ixl (j := 3) hl rfl ?_
                simp only [tSeq, tAsg, tOp, tUn, tVar, tC, rI0, rI, rU, rEq, rNe, gName, tIfS, tTest, tB, tAnd, tOr, tNot, tAndV, tOrV, tNotV, tChain, tRet, tRetN, tNext, tDrop, tCall, tCons, tNil, tLst, tFld, sFld, scal_int, L2.start, List.map_cons, List.map_nil, List.length_cons, List.length_nil, List.replicate_succ, List.replicate_zero, List.cons_append, List.nil_append, List.append_nil, List.getElem?_cons_zero, List.getElem?_cons_succ, List.set_cons_zero, List.set_cons_succ, Option.some.injEq, V.int.injEq, V.bl.injEq, V.ref.injEq, HO.ins.injEq, HO.lst.injEq, List.cons.injEq, and_true, true_and, and_assoc, exists_and_left, exists_eq_left', exists_eq_left, exists_eq_right, Nat.reduceSub, Nat.zero_add, Nat.reduceAdd, Nat.reduceLT, decide_eq_true_eq, decide_true, decide_false, Bool.false_eq_true, if_true, if_false, ite_true, ite_false, nox_K, cxOf_K]
                by_cases hm : (1 : Int) ≤ m
                · rw [if_pos hm]
                  by_cases hm12 : (m : Int) ≤ 12
                  · rw [if_pos hm12]
                    refine ixl (j := 4) hl rfl ?_
                    simp only [tSeq, tAsg, tOp, tUn, tVar, tC, rI0, rI, rU, rEq, rNe, gName, tIfS, tTest, tB, tAnd, tOr, tNot, tAndV, tOrV, tNotV, tChain, tRet, tRetN, tNext, tDrop, tCall, tCons, tNil, tLst, tFld, sFld, scal_int, L2.start, List.map_cons, List.map_nil, List.length_cons, List.length_nil, List.replicate_succ, List.replicate_zero, List.cons_append, List.nil_append, List.append_nil, List.getElem?_cons_zero, List.getElem?_cons_succ, List.set_cons_zero, List.set_cons_succ, Option.some.injEq, V.int.injEq, V.bl.injEq, V.ref.injEq, HO.ins.injEq, HO.lst.injEq, List.cons.injEq, and_true, true_and, and_assoc, exists_and_left, exists_eq_left', exists_eq_left, exists_eq_right, Nat.reduceSub, Nat.zero_add, Nat.reduceAdd, Nat.reduceLT, decide_eq_true_eq, decide_true, decide_false, Bool.false_eq_true, if_true, if_false, ite_true, ite_false, nox_K, cxOf_K]
                    rw [if_pos (Int.natCast_nonneg t)]
                    by_cases ht : (t : Int) < 1440
                    · rw [decide_eq_true ht]
                      rw [if_pos (by omega)] at q'
                      exact q'
                    · rw [decide_eq_false ht]
                      exact qf (by omega)
                  · rw [if_neg hm12]
                    exact qf (by omega)
                · rw [if_neg hm]
                  exact qf (by omega)
              · rw [if_neg hx7]
                exact qf (by omega)
            · rw [if_neg hx]
              exact qf (by omega)
          · rw [decide_eq_false hk4, if_pos (by decide)]
            exact qf (by omega)
        · rw [if_neg hk, if_pos (by decide)]
          exact qf (by omega)
      · rw [if_neg hb, if_pos (by decide)]
        exact qf (by omega)
    · have e5 : (!decide (((natV ns).length : Int) = 5)) = true := by
        rw [List.length_map, decide_eq_false (by omega)]
        rfl
      rw [e5, if_pos rfl]
      have e : Cl02.turnOf ns = none := by
        unfold Cl02.turnOf
        split
        · exact absurd rfl h5
        · rfl
      rw [e] at q
      exact q
theorem ok_day_of_turn (cTurn : IsTurn K mg cT) (I_first_day_of_month : Is P w K mg base 2 "first_day_of_month" ["year", "month"] spFirstMonth) (I_month_length : Is P w K mg base 1 "month_length" ["year", "month"] spMonthLength) (I_weekday_of : Is P w K mg base 1 "weekday_of" ["day"] spWeekday)
    (D : Def K mg "day_of_turn" s_day_of_turn ["turn", "year"]) : Is P w K mg base 3 "day_of_turn" ["turn", "year"] (spDayOfTurn cT) := by
  refine Is.by D fun f fd F => F.ok sc_day_of_turn (fun vs H Q E h => ?_) (fun cdv A outer s H vs Q E hr h => ?_)
  · obtain ⟨_, _, _, rfl, _⟩ := h
    rfl
  · obtain ⟨p, t, Y, rfl, ⟨dx, hp⟩, ok, q⟩ := h
    refine ⟨_, (pss_cons (ps_set (i := 2) sc_day_of_turn.nd rfl (Or.inl rfl) (pe_op op_sub (pe_fld (pv 0) rfl) pe_int))
    (pss_cons (ps_set (i := 3) sc_day_of_turn.nd rfl (Or.inl rfl) (pe_is I_first_day_of_month (hr.mono (by decide)) rfl (pa_cons (pv 1) (pa_cons (pe_fld (pv 0) rfl) pa_nil))))
    (pss_cons (ps_if (pt_cmpR op_eq (pe_fld (pv 0) rfl) pe_int (nomark _)) (pss_one (ps_ret (pe_op op_add (pe_op op_add (pv 3) (pe_op op_mod (pe_op op_sub (pe_fld (pv 0) rfl) (pe_is I_weekday_of (hr.mono (by decide)) rfl (pa_cons (pv 3) pa_nil))) pe_int)) (pe_op op_mul (pv 2) pe_int)))) pss_nil)
    (pss_cons (ps_set (i := 4) sc_day_of_turn.nd rfl (Or.inl rfl) (pe_op op_sub (pe_op op_add (pv 3) (pe_is I_month_length (hr.mono (by decide)) rfl (pa_cons (pv 1) (pa_cons (pe_fld (pv 0) rfl) pa_nil)))) pe_int))
    (pss_one (ps_ret (pe_op op_sub (pe_op op_sub (pv 4) (pe_op op_mod (pe_op op_sub (pe_is I_weekday_of (hr.mono (by decide)) rfl (pa_cons (pv 4) pa_nil)) (pe_fld (pv 0) rfl)) pe_int)) (pe_op op_mul (pv 2) pe_int)))))))), ?_⟩
    simp only [tSeq, tAsg, tOp, tUn, tVar, tC, rI0, rI, rU, rEq, rNe, gName, tIfS, tTest, tB, tAnd, tOr, tNot, tAndV, tOrV, tNotV, tChain, tRet, tRetN, tNext, tDrop, tCall, tCons, tNil, tLst, tFld, sFld, scal_int, L2.start, List.map_cons, List.map_nil, List.length_cons, List.length_nil, List.replicate_succ, List.replicate_zero, List.cons_append, List.nil_append, List.append_nil, List.getElem?_cons_zero, List.getElem?_cons_succ, List.set_cons_zero, List.set_cons_succ, Option.some.injEq, V.int.injEq, V.bl.injEq, V.ref.injEq, HO.ins.injEq, HO.lst.injEq, List.cons.injEq, and_true, true_and, and_assoc, exists_and_left, exists_eq_left', exists_eq_left, exists_eq_right, Nat.reduceSub, Nat.zero_add, Nat.reduceAdd, Nat.reduceLT, decide_eq_true_eq, decide_true, decide_false, Bool.false_eq_true, if_true, if_false, ite_true, ite_false, nox_K, cxOf_K, hp, cTurn.cl, cTurn.n_from_end, cTurn.n_rank, cTurn.n_weekday, cTurn.n_month, cTurn.n_minute, lk_Turn_from_end, lk_Turn_rank, lk_Turn_weekday, lk_Turn_month, lk_Turn_minute, pn_Turn_from_end, pn_Turn_rank, pn_Turn_weekday, pn_Turn_month, pn_Turn_minute, pu_Turn_from_end, pu_Turn_rank, pu_Turn_weekday, pu_Turn_month, pu_Turn_minute]
    refine ⟨Y, t.month, rfl, ok.m1, ok.m12, ?_⟩
    simp only [tSeq, tAsg, tOp, tUn, tVar, tC, rI0, rI, rU, rEq, rNe, gName, tIfS, tTest, tB, tAnd, tOr, tNot, tAndV, tOrV, tNotV, tChain, tRet, tRetN, tNext, tDrop, tCall, tCons, tNil, tLst, tFld, sFld, scal_int, L2.start, List.map_cons, List.map_nil, List.length_cons, List.length_nil, List.replicate_succ, List.replicate_zero, List.cons_append, List.nil_append, List.append_nil, List.getElem?_cons_zero, List.getElem?_cons_succ, List.set_cons_zero, List.set_cons_succ, Option.some.injEq, V.int.injEq, V.bl.injEq, V.ref.injEq, HO.ins.injEq, HO.lst.injEq, List.cons.injEq, and_true, true_and, and_assoc, exists_and_left, exists_eq_left', exists_eq_left, exists_eq_right, Nat.reduceSub, Nat.zero_add, Nat.reduceAdd, Nat.reduceLT, decide_eq_true_eq, decide_true, decide_false, Bool.false_eq_true, if_true, if_false, ite_true, ite_false, nox_K, cxOf_K, hp, cTurn.cl, cTurn.n_from_end, cTurn.n_rank, cTurn.n_weekday, cTurn.n_month, cTurn.n_minute, lk_Turn_from_end, lk_Turn_rank, lk_Turn_weekday, lk_Turn_month, lk_Turn_minute, pn_Turn_from_end, pn_Turn_rank, pn_Turn_weekday, pn_Turn_month, pn_Turn_minute, pu_Turn_from_end, pu_Turn_rank, pu_Turn_weekday, pu_Turn_month, pu_Turn_minute]
    cases hb : t.back with
    | false =>
      simp only [Bool.false_eq_true, if_false, if_true]
      refine ⟨_, rfl, ?_⟩
      simp only [tSeq, tAsg, tOp, tUn, tVar, tC, rI0, rI, rU, rEq, rNe, gName, tIfS, tTest, tB, tAnd, tOr, tNot, tAndV, tOrV, tNotV, tChain, tRet, tRetN, tNext, tDrop, tCall, tCons, tNil, tLst, tFld, sFld, scal_int, L2.start, List.map_cons, List.map_nil, List.length_cons, List.length_nil, List.replicate_succ, List.replicate_zero, List.cons_append, List.nil_append, List.append_nil, List.getElem?_cons_zero, List.getElem?_cons_succ, List.set_cons_zero, List.set_cons_succ, Option.some.injEq, V.int.injEq, V.bl.injEq, V.ref.injEq, HO.ins.injEq, HO.lst.injEq, List.cons.injEq, and_true, true_and, and_assoc, exists_and_left, exists_eq_left', exists_eq_left, exists_eq_right, Nat.reduceSub, Nat.zero_add, Nat.reduceAdd, Nat.reduceLT, decide_eq_true_eq, decide_true, decide_false, Bool.false_eq_true, if_true, if_false, ite_true, ite_false, nox_K, cxOf_K, hp, cTurn.cl, cTurn.n_from_end, cTurn.n_rank, cTurn.n_weekday, cTurn.n_month, cTurn.n_minute, lk_Turn_from_end, lk_Turn_rank, lk_Turn_weekday, lk_Turn_month, lk_Turn_minute, pn_Turn_from_end, pn_Turn_rank, pn_Turn_weekday, pn_Turn_month, pn_Turn_minute, pu_Turn_from_end, pu_Turn_rank, pu_Turn_weekday, pu_Turn_month, pu_Turn_minute]
      refine ⟨by decide, .inr (by decide), ?_⟩
      have e : ((turnDay Y t : Nat) : Int) = (Cl01.monthStart Y t.month : Int) + ((t.w : Int) + 1 - (((Cl01.monthStart Y t.month : Int) + 5) % 7 + 1)) % 7 + ((t.k : Int) - 1) * 7 := by
        have k1 := ok.k1
        have w7 := ok.w7
        unfold turnDay Cl01.weekday
        rw [hb, if_neg (by decide)]
        omega
      rw [← e]
      exact q
    | true =>
      simp only [if_true, show ¬ (1 : Int) = 0 by decide, if_false]
      refine ⟨Y, t.month, rfl, ok.m1, ok.m12, ?_⟩
      simp only [tSeq, tAsg, tOp, tUn, tVar, tC, rI0, rI, rU, rEq, rNe, gName, tIfS, tTest, tB, tAnd, tOr, tNot, tAndV, tOrV, tNotV, tChain, tRet, tRetN, tNext, tDrop, tCall, tCons, tNil, tLst, tFld, sFld, scal_int, L2.start, List.map_cons, List.map_nil, List.length_cons, List.length_nil, List.replicate_succ, List.replicate_zero, List.cons_append, List.nil_append, List.append_nil, List.getElem?_cons_zero, List.getElem?_cons_succ, List.set_cons_zero, List.set_cons_succ, Option.some.injEq, V.int.injEq, V.bl.injEq, V.ref.injEq, HO.ins.injEq, HO.lst.injEq, List.cons.injEq, and_true, true_and, and_assoc, exists_and_left, exists_eq_left', exists_eq_left, exists_eq_right, Nat.reduceSub, Nat.zero_add, Nat.reduceAdd, Nat.reduceLT, decide_eq_true_eq, decide_true, decide_false, Bool.false_eq_true, if_true, if_false, ite_true, ite_false, nox_K, cxOf_K, hp, cTurn.cl, cTurn.n_from_end, cTurn.n_rank, cTurn.n_weekday, cTurn.n_month, cTurn.n_minute, lk_Turn_from_end, lk_Turn_rank, lk_Turn_weekday, lk_Turn_month, lk_Turn_minute, pn_Turn_from_end, pn_Turn_rank, pn_Turn_weekday, pn_Turn_month, pn_Turn_minute, pu_Turn_from_end, pu_Turn_rank, pu_Turn_weekday, pu_Turn_month, pu_Turn_minute]
      refine ⟨_, rfl, ?_⟩
      simp only [tSeq, tAsg, tOp, tUn, tVar, tC, rI0, rI, rU, rEq, rNe, gName, tIfS, tTest, tB, tAnd, tOr, tNot, tAndV, tOrV, tNotV, tChain, tRet, tRetN, tNext, tDrop, tCall, tCons, tNil, tLst, tFld, sFld, scal_int, L2.start, List.map_cons, List.map_nil, List.length_cons, List.length_nil, List.replicate_succ, List.replicate_zero, List.cons_append, List.nil_append, List.append_nil, List.getElem?_cons_zero, List.getElem?_cons_succ, List.set_cons_zero, List.set_cons_succ, Option.some.injEq, V.int.injEq, V.bl.injEq, V.ref.injEq, HO.ins.injEq, HO.lst.injEq, List.cons.injEq, and_true, true_and, and_assoc, exists_and_left, exists_eq_left', exists_eq_left, exists_eq_right, Nat.reduceSub, Nat.zero_add, Nat.reduceAdd, Nat.reduceLT, decide_eq_true_eq, decide_true, decide_false, Bool.false_eq_true, if_true, if_false, ite_true, ite_false, nox_K, cxOf_K, hp, cTurn.cl, cTurn.n_from_end, cTurn.n_rank, cTurn.n_weekday, cTurn.n_month, cTurn.n_minute, lk_Turn_from_end, lk_Turn_rank, lk_Turn_weekday, lk_Turn_month, lk_Turn_minute, pn_Turn_from_end, pn_Turn_rank, pn_Turn_weekday, pn_Turn_month, pn_Turn_minute, pu_Turn_from_end, pu_Turn_rank, pu_Turn_weekday, pu_Turn_month, pu_Turn_minute]
      refine ⟨by decide, .inr (by decide), ?_⟩
      have e : ((turnDay Y t : Nat) : Int) = (Cl01.monthStart Y t.month : Int) + (Cl01.monthDays Y t.month : Int) - 1 - ((((Cl01.monthStart Y t.month : Int) + (Cl01.monthDays Y t.month : Int) - 1 + 5) % 7 + 1) - ((t.w : Int) + 1)) % 7 - ((t.k : Int) - 1) * 7 := by
        have k1 := ok.k1
        have k4 := ok.k4
        have w7 := ok.w7
        have g := monthDays_ge Y t.month
        unfold turnDay Cl01.weekday
        rw [hb, if_pos rfl]
        omega
      rw [← e]
      exact q
theorem ok_moment_of_turn (T : Txt mg) (cTurn : IsTurn K mg cT) (I_day_of_turn : Is P w K mg base 3 "day_of_turn" ["turn", "year"] (spDayOfTurn cT)) (D : Def K mg "moment_of_turn" s_moment_of_turn ["turn", "year"]) : Is P w K mg base 4 "moment_of_turn" ["turn", "year"] (spMomentOfTurn cT) := by
  refine Is.by D fun f fd F => F.ok sc_moment_of_turn (fun vs H Q E h => ?_) (fun cdv A outer s H vs Q E hr h => ?_)
  · obtain ⟨_, _, _, rfl, _⟩ := h
    rfl
  · obtain ⟨p, t, Y, rfl, ⟨dx, hp⟩, ok, q⟩ := h
    refine ⟨_, (pss_one (ps_ret (pe_op op_add (pe_op op_mul (pe_is I_day_of_turn (hr.mono (by decide)) rfl (pa_cons (pv 0) (pa_cons (pv 1) pa_nil))) (pe_cst T.g_MINUTES_OF_DAY rfl)) (pe_fld (pv 0) rfl)))), ?_⟩
    simp only [tSeq, tAsg, tOp, tUn, tVar, tC, rI0, rI, rU, rEq, rNe, gName, tIfS, tTest, tB, tAnd, tOr, tNot, tAndV, tOrV, tNotV, tChain, tRet, tRetN, tNext, tDrop, tCall, tCons, tNil, tLst, tFld, sFld, scal_int, L2.start, List.map_cons, List.map_nil, List.length_cons, List.length_nil, List.replicate_succ, List.replicate_zero, List.cons_append, List.nil_append, List.append_nil, List.getElem?_cons_zero, List.getElem?_cons_succ, List.set_cons_zero, List.set_cons_succ, Option.some.injEq, V.int.injEq, V.bl.injEq, V.ref.injEq, HO.ins.injEq, HO.lst.injEq, List.cons.injEq, and_true, true_and, and_assoc, exists_and_left, exists_eq_left', exists_eq_left, exists_eq_right, Nat.reduceSub, Nat.zero_add, Nat.reduceAdd, Nat.reduceLT, decide_eq_true_eq, decide_true, decide_false, Bool.false_eq_true, if_true, if_false, ite_true, ite_false, nox_K, cxOf_K, hp, cTurn.cl, cTurn.n_from_end, cTurn.n_rank, cTurn.n_weekday, cTurn.n_month, cTurn.n_minute, lk_Turn_from_end, lk_Turn_rank, lk_Turn_weekday, lk_Turn_month, lk_Turn_minute, pn_Turn_from_end, pn_Turn_rank, pn_Turn_weekday, pn_Turn_month, pn_Turn_minute, pu_Turn_from_end, pu_Turn_rank, pu_Turn_weekday, pu_Turn_month, pu_Turn_minute]
    refine ⟨p, t, Y, rfl, ⟨dx, hp⟩, ok, ?_⟩
    simp only [tSeq, tAsg, tOp, tUn, tVar, tC, rI0, rI, rU, rEq, rNe, gName, tIfS, tTest, tB, tAnd, tOr, tNot, tAndV, tOrV, tNotV, tChain, tRet, tRetN, tNext, tDrop, tCall, tCons, tNil, tLst, tFld, sFld, scal_int, L2.start, List.map_cons, List.map_nil, List.length_cons, List.length_nil, List.replicate_succ, List.replicate_zero, List.cons_append, List.nil_append, List.append_nil, List.getElem?_cons_zero, List.getElem?_cons_succ, List.set_cons_zero, List.set_cons_succ, Option.some.injEq, V.int.injEq, V.bl.injEq, V.ref.injEq, HO.ins.injEq, HO.lst.injEq, List.cons.injEq, and_true, true_and, and_assoc, exists_and_left, exists_eq_left', exists_eq_left, exists_eq_right, Nat.reduceSub, Nat.zero_add, Nat.reduceAdd, Nat.reduceLT, decide_eq_true_eq, decide_true, decide_false, Bool.false_eq_true, if_true, if_false, ite_true, ite_false, nox_K, cxOf_K, hp, cTurn.cl, cTurn.n_from_end, cTurn.n_rank, cTurn.n_weekday, cTurn.n_month, cTurn.n_minute, lk_Turn_from_end, lk_Turn_rank, lk_Turn_weekday, lk_Turn_month, lk_Turn_minute, pn_Turn_from_end, pn_Turn_rank, pn_Turn_weekday, pn_Turn_month, pn_Turn_minute, pu_Turn_from_end, pu_Turn_rank, pu_Turn_weekday, pu_Turn_month, pu_Turn_minute]
    refine ⟨.inr (by decide), ?_⟩
    rw [turnAt_eq ok] at q
    have e : ((1440 * turnDay Y t + t.minute : Nat) : Int) = (turnDay Y t : Int) * 1440 + (t.minute : Int) := by omega
    rw [← e]
    exact q
theorem ok_is_summer (T : Txt mg) (cSummer : IsSummer K mg cS) (I_year_of : Is P w K mg base 1 "year_of" ["day"] spYearOf) (I_moment_of_turn : Is P w K mg base 4 "moment_of_turn" ["turn", "year"] (spMomentOfTurn cT)) (D : Def K mg "is_summer" s_is_summer ["summer", "moment"]) :
    Is P w K mg base 5 "is_summer" ["summer", "moment"] (spIsSummer cT cS) := by
  refine Is.by D fun f fd F => F.ok sc_is_summer (fun vs H Q E h => ?_) (fun cdv A outer s H vs Q E hr h => ?_)
  · obtain ⟨_, _, _, _, _, rfl, _⟩ := h
    rfl
  · obtain ⟨p, x, a, b, u, rfl, ⟨dx, pa, pb, hp, ha, hb⟩, oa, ob, q⟩ := h
    refine ⟨_, (pss_cons (ps_set (i := 2) sc_is_summer.nd rfl (Or.inl rfl) (pe_is I_year_of (hr.mono (by decide)) rfl (pa_cons (pe_op op_fdiv (pv 1) (pe_cst T.g_MINUTES_OF_DAY rfl)) pa_nil)))
    (pss_cons (ps_set (i := 3) sc_is_summer.nd rfl (Or.inl rfl) (pe_is I_moment_of_turn (hr.mono (by decide)) rfl (pa_cons (pe_fld (pv 0) rfl) (pa_cons (pv 2) pa_nil))))
    (pss_cons (ps_set (i := 4) sc_is_summer.nd rfl (Or.inl rfl) (pe_is I_moment_of_turn (hr.mono (by decide)) rfl (pa_cons (pe_fld (pv 0) rfl) (pa_cons (pv 2) pa_nil))))
    (pss_cons (ps_if (pt_cmpR op_lt (pv 3) (pv 4) (nomark _)) (pss_one (ps_ret (pe_chain op_le op_lt (pv 3) (pv 1) (pv 4)))) pss_nil)
    (pss_one (ps_ret (pe_or (pe_cmpR op_lt (pv 1) (pv 4) (nomark _)) (pe_one (pe_cmpR op_ge (pv 1) (pv 3) (nomark _)))))))))), ?_⟩
    simp only [tSeq, tAsg, tOp, tUn, tVar, tC, rI0, rI, rU, rEq, rNe, gName, tIfS, tTest, tB, tAnd, tOr, tNot, tAndV, tOrV, tNotV, tChain, tRet, tRetN, tNext, tDrop, tCall, tCons, tNil, tLst, tFld, sFld, scal_int, L2.start, List.map_cons, List.map_nil, List.length_cons, List.length_nil, List.replicate_succ, List.replicate_zero, List.cons_append, List.nil_append, List.append_nil, List.getElem?_cons_zero, List.getElem?_cons_succ, List.set_cons_zero, List.set_cons_succ, Option.some.injEq, V.int.injEq, V.bl.injEq, V.ref.injEq, HO.ins.injEq, HO.lst.injEq, List.cons.injEq, and_true, true_and, and_assoc, exists_and_left, exists_eq_left', exists_eq_left, exists_eq_right, Nat.reduceSub, Nat.zero_add, Nat.reduceAdd, Nat.reduceLT, decide_eq_true_eq, decide_true, decide_false, Bool.false_eq_true, if_true, if_false, ite_true, ite_false, nox_K, cxOf_K, hp, cSummer.cl, cSummer.n_more, cSummer.n_begins, cSummer.n_ends, lk_Summer_more, lk_Summer_begins, lk_Summer_ends, pn_Summer_more, pn_Summer_begins, pn_Summer_ends, pu_Summer_more, pu_Summer_begins, pu_Summer_ends]
    refine ⟨⟨by decide, by decide⟩, _, rfl, by omega, ?_⟩
    simp only [tSeq, tAsg, tOp, tUn, tVar, tC, rI0, rI, rU, rEq, rNe, gName, tIfS, tTest, tB, tAnd, tOr, tNot, tAndV, tOrV, tNotV, tChain, tRet, tRetN, tNext, tDrop, tCall, tCons, tNil, tLst, tFld, sFld, scal_int, L2.start, List.map_cons, List.map_nil, List.length_cons, List.length_nil, List.replicate_succ, List.replicate_zero, List.cons_append, List.nil_append, List.append_nil, List.getElem?_cons_zero, List.getElem?_cons_succ, List.set_cons_zero, List.set_cons_succ, Option.some.injEq, V.int.injEq, V.bl.injEq, V.ref.injEq, HO.ins.injEq, HO.lst.injEq, List.cons.injEq, and_true, true_and, and_assoc, exists_and_left, exists_eq_left', exists_eq_left, exists_eq_right, Nat.reduceSub, Nat.zero_add, Nat.reduceAdd, Nat.reduceLT, decide_eq_true_eq, decide_true, decide_false, Bool.false_eq_true, if_true, if_false, ite_true, ite_false, nox_K, cxOf_K, hp, cSummer.cl, cSummer.n_more, cSummer.n_begins, cSummer.n_ends, lk_Summer_more, lk_Summer_begins, lk_Summer_ends, pn_Summer_more, pn_Summer_begins, pn_Summer_ends, pu_Summer_more, pu_Summer_begins, pu_Summer_ends]
    have eu : ((u : Int) / 1440).toNat = u / 1440 := by omega
    rw [eu]
    refine ⟨pa, a, Cl01.yearOf (u / 1440), rfl, ha, oa, ?_⟩
    simp only [tSeq, tAsg, tOp, tUn, tVar, tC, rI0, rI, rU, rEq, rNe, gName, tIfS, tTest, tB, tAnd, tOr, tNot, tAndV, tOrV, tNotV, tChain, tRet, tRetN, tNext, tDrop, tCall, tCons, tNil, tLst, tFld, sFld, scal_int, L2.start, List.map_cons, List.map_nil, List.length_cons, List.length_nil, List.replicate_succ, List.replicate_zero, List.cons_append, List.nil_append, List.append_nil, List.getElem?_cons_zero, List.getElem?_cons_succ, List.set_cons_zero, List.set_cons_succ, Option.some.injEq, V.int.injEq, V.bl.injEq, V.ref.injEq, HO.ins.injEq, HO.lst.injEq, List.cons.injEq, and_true, true_and, and_assoc, exists_and_left, exists_eq_left', exists_eq_left, exists_eq_right, Nat.reduceSub, Nat.zero_add, Nat.reduceAdd, Nat.reduceLT, decide_eq_true_eq, decide_true, decide_false, Bool.false_eq_true, if_true, if_false, ite_true, ite_false, nox_K, cxOf_K, hp, cSummer.cl, cSummer.n_more, cSummer.n_begins, cSummer.n_ends, lk_Summer_more, lk_Summer_begins, lk_Summer_ends, pn_Summer_more, pn_Summer_begins, pn_Summer_ends, pu_Summer_more, pu_Summer_begins, pu_Summer_ends]
    refine ⟨pb, b, Cl01.yearOf (u / 1440), rfl, hb, ob, ?_⟩
    simp only [tSeq, tAsg, tOp, tUn, tVar, tC, rI0, rI, rU, rEq, rNe, gName, tIfS, tTest, tB, tAnd, tOr, tNot, tAndV, tOrV, tNotV, tChain, tRet, tRetN, tNext, tDrop, tCall, tCons, tNil, tLst, tFld, sFld, scal_int, L2.start, List.map_cons, List.map_nil, List.length_cons, List.length_nil, List.replicate_succ, List.replicate_zero, List.cons_append, List.nil_append, List.append_nil, List.getElem?_cons_zero, List.getElem?_cons_succ, List.set_cons_zero, List.set_cons_succ, Option.some.injEq, V.int.injEq, V.bl.injEq, V.ref.injEq, HO.ins.injEq, HO.lst.injEq, List.cons.injEq, and_true, true_and, and_assoc, exists_and_left, exists_eq_left', exists_eq_left, exists_eq_right, Nat.reduceSub, Nat.zero_add, Nat.reduceAdd, Nat.reduceLT, decide_eq_true_eq, decide_true, decide_false, Bool.false_eq_true, if_true, if_false, ite_true, ite_false, nox_K, cxOf_K, hp, cSummer.cl, cSummer.n_more, cSummer.n_begins, cSummer.n_ends, lk_Summer_more, lk_Summer_begins, lk_Summer_ends, pn_Summer_more, pn_Summer_begins, pn_Summer_ends, pu_Summer_more, pu_Summer_begins, pu_Summer_ends]
    unfold inSummer at q
    by_cases h1 : Cl02.turnAt (Cl01.yearOf (u / 1440)) a < Cl02.turnAt (Cl01.yearOf (u / 1440)) b
    · rw [if_pos h1] at q
      rw [if_pos (Int.ofNat_lt.mpr h1)]
      by_cases h2 : Cl02.turnAt (Cl01.yearOf (u / 1440)) a ≤ u
      · rw [if_pos (Int.ofNat_le.mpr h2)]
        rw [decide_eq_true h2, Bool.true_and] at q
        by_cases h3 : u < Cl02.turnAt (Cl01.yearOf (u / 1440)) b
        · rw [decide_eq_true (Int.ofNat_lt.mpr h3)]
          rw [decide_eq_true h3] at q
          exact q
        · rw [decide_eq_false (fun z => h3 (Int.ofNat_lt.mp z))]
          rw [decide_eq_false h3] at q
          exact q
      · rw [if_neg (fun z => h2 (Int.ofNat_le.mp z))]
        rw [decide_eq_false h2, Bool.false_and] at q
        exact q
    · rw [if_neg h1] at q
      rw [if_neg (fun z => h1 (Int.ofNat_lt.mp z))]
      by_cases h3 : u < Cl02.turnAt (Cl01.yearOf (u / 1440)) b
      · rw [if_pos (Int.ofNat_lt.mpr h3)]
        rw [decide_eq_true h3, Bool.true_or] at q
        exact q
      · rw [if_neg (fun z => h3 (Int.ofNat_lt.mp z))]
        rw [decide_eq_false h3, Bool.false_or] at q
        by_cases h2 : Cl02.turnAt (Cl01.yearOf (u / 1440)) a ≤ u
        · rw [decide_eq_true (Int.ofNat_le.mpr h2)]
          rw [decide_eq_true h2] at q
          exact q
        · rw [decide_eq_false (fun z => h2 (Int.ofNat_le.mp z))]
          rw [decide_eq_false h2] at q
          exact q
theorem ok_ahead_by (T : Txt mg) (cSummer : IsSummer K mg cS) (cDecree : IsDecree K mg cD) (I_is_summer : Is P w K mg base 5 "is_summer" ["summer", "moment"] (spIsSummer cT cS)) (D : Def K mg "ahead_by" s_ahead_by ["decree", "moment"]) :
    Is P w K mg base 6 "ahead_by" ["decree", "moment"] (spAheadBy cT cS cD) := by
  refine Is.by D fun f fd F => F.ok sc_ahead_by (fun vs H Q E h => ?_) (fun cdv A outer s H vs Q E hr h => ?_)
  · obtain ⟨_, _, _, rfl, _⟩ := h
    rfl
  · obtain ⟨p, d, u, rfl, ⟨dx, v, hp, hv⟩, ok, q⟩ := h
    refine ⟨_, (pss_cons (ps_if (PW.pt (pw_and (pt_cmpR op_notN (pe_fld (pv 0) rfl) pe_non (nomark _)) (pw_and1 (pt_val (pe_is I_is_summer (hr.mono (by decide)) rfl (pa_cons (pe_fld (pv 0) rfl) (pa_cons (pv 1) pa_nil))))))) (pss_one (ps_ret (pe_op op_add (pe_fld (pv 0) rfl) (pe_fld (pe_fld (pv 0) rfl) rfl)))) pss_nil)
    (pss_one (ps_ret (pe_fld (pv 0) rfl)))), ?_⟩
    simp only [tSeq, tAsg, tOp, tUn, tVar, tC, rI0, rI, rU, rEq, rNe, gName, tIfS, tTest, tB, tAnd, tOr, tNot, tAndV, tOrV, tNotV, tChain, tRet, tRetN, tNext, tDrop, tCall, tCons, tNil, tLst, tFld, sFld, scal_int, L2.start, List.map_cons, List.map_nil, List.length_cons, List.length_nil, List.replicate_succ, List.replicate_zero, List.cons_append, List.nil_append, List.append_nil, List.getElem?_cons_zero, List.getElem?_cons_succ, List.set_cons_zero, List.set_cons_succ, Option.some.injEq, V.int.injEq, V.bl.injEq, V.ref.injEq, HO.ins.injEq, HO.lst.injEq, List.cons.injEq, and_true, true_and, and_assoc, exists_and_left, exists_eq_left', exists_eq_left, exists_eq_right, Nat.reduceSub, Nat.zero_add, Nat.reduceAdd, Nat.reduceLT, decide_eq_true_eq, decide_true, decide_false, Bool.false_eq_true, if_true, if_false, ite_true, ite_false, nox_K, cxOf_K, hp, cDecree.cl, cDecree.n_moment, cDecree.n_offset, cDecree.n_summer, lk_Decree_moment, lk_Decree_offset, lk_Decree_summer, pn_Decree_moment, pn_Decree_offset, pn_Decree_summer, pu_Decree_moment, pu_Decree_offset, pu_Decree_summer, cSummer.cl, cSummer.n_more, cSummer.n_begins, cSummer.n_ends, lk_Summer_more, lk_Summer_begins, lk_Summer_ends, pn_Summer_more, pn_Summer_begins, pn_Summer_ends, pu_Summer_more, pu_Summer_begins, pu_Summer_ends]
    cases hs : d.summer with
    | none =>
      rw [ahead_none hs] at q
      rw [hs] at hv
      have hv' : v = .non := hv
      subst hv'
      simp only [tSeq, tAsg, tOp, tUn, tVar, tC, rI0, rI, rU, rEq, rNe, gName, tIfS, tTest, tB, tAnd, tOr, tNot, tAndV, tOrV, tNotV, tChain, tRet, tRetN, tNext, tDrop, tCall, tCons, tNil, tLst, tFld, sFld, scal_int, L2.start, List.map_cons, List.map_nil, List.length_cons, List.length_nil, List.replicate_succ, List.replicate_zero, List.cons_append, List.nil_append, List.append_nil, List.getElem?_cons_zero, List.getElem?_cons_succ, List.set_cons_zero, List.set_cons_succ, Option.some.injEq, V.int.injEq, V.bl.injEq, V.ref.injEq, HO.ins.injEq, HO.lst.injEq, List.cons.injEq, and_true, true_and, and_assoc, exists_and_left, exists_eq_left', exists_eq_left, exists_eq_right, Nat.reduceSub, Nat.zero_add, Nat.reduceAdd, Nat.reduceLT, decide_eq_true_eq, decide_true, decide_false, Bool.false_eq_true, if_true, if_false, ite_true, ite_false, nox_K, cxOf_K, hp, cDecree.cl, cDecree.n_moment, cDecree.n_offset, cDecree.n_summer, lk_Decree_moment, lk_Decree_offset, lk_Decree_summer, pn_Decree_moment, pn_Decree_offset, pn_Decree_summer, pu_Decree_moment, pu_Decree_offset, pu_Decree_summer, cSummer.cl, cSummer.n_more, cSummer.n_begins, cSummer.n_ends, lk_Summer_more, lk_Summer_begins, lk_Summer_ends, pn_Summer_more, pn_Summer_begins, pn_Summer_ends, pu_Summer_more, pu_Summer_begins, pu_Summer_ends]
      exact q
    | some t =>
      obtain ⟨x, a, b⟩ := t
      rw [ahead_some hs] at q
      rw [hs] at hv
      obtain ⟨ps, rfl, hS⟩ := hv
      obtain ⟨_, _, oa, ob, _⟩ := ok.sum _ _ _ hs
      rw [show (!decide (V.ref ps = V.non)) = true from rfl]
      simp only [tSeq, tAsg, tOp, tUn, tVar, tC, rI0, rI, rU, rEq, rNe, gName, tIfS, tTest, tB, tAnd, tOr, tNot, tAndV, tOrV, tNotV, tChain, tRet, tRetN, tNext, tDrop, tCall, tCons, tNil, tLst, tFld, sFld, scal_int, L2.start, List.map_cons, List.map_nil, List.length_cons, List.length_nil, List.replicate_succ, List.replicate_zero, List.cons_append, List.nil_append, List.append_nil, List.getElem?_cons_zero, List.getElem?_cons_succ, List.set_cons_zero, List.set_cons_succ, Option.some.injEq, V.int.injEq, V.bl.injEq, V.ref.injEq, HO.ins.injEq, HO.lst.injEq, List.cons.injEq, and_true, true_and, and_assoc, exists_and_left, exists_eq_left', exists_eq_left, exists_eq_right, Nat.reduceSub, Nat.zero_add, Nat.reduceAdd, Nat.reduceLT, decide_eq_true_eq, decide_true, decide_false, Bool.false_eq_true, if_true, if_false, ite_true, ite_false, nox_K, cxOf_K, hp, cDecree.cl, cDecree.n_moment, cDecree.n_offset, cDecree.n_summer, lk_Decree_moment, lk_Decree_offset, lk_Decree_summer, pn_Decree_moment, pn_Decree_offset, pn_Decree_summer, pu_Decree_moment, pu_Decree_offset, pu_Decree_summer, cSummer.cl, cSummer.n_more, cSummer.n_begins, cSummer.n_ends, lk_Summer_more, lk_Summer_begins, lk_Summer_ends, pn_Summer_more, pn_Summer_begins, pn_Summer_ends, pu_Summer_more, pu_Summer_begins, pu_Summer_ends]
      refine ⟨ps, x, a, b, u, rfl, hS, oa, ob, ?_⟩
      simp only [tSeq, tAsg, tOp, tUn, tVar, tC, rI0, rI, rU, rEq, rNe, gName, tIfS, tTest, tB, tAnd, tOr, tNot, tAndV, tOrV, tNotV, tChain, tRet, tRetN, tNext, tDrop, tCall, tCons, tNil, tLst, tFld, sFld, scal_int, L2.start, List.map_cons, List.map_nil, List.length_cons, List.length_nil, List.replicate_succ, List.replicate_zero, List.cons_append, List.nil_append, List.append_nil, List.getElem?_cons_zero, List.getElem?_cons_succ, List.set_cons_zero, List.set_cons_succ, Option.some.injEq, V.int.injEq, V.bl.injEq, V.ref.injEq, HO.ins.injEq, HO.lst.injEq, List.cons.injEq, and_true, true_and, and_assoc, exists_and_left, exists_eq_left', exists_eq_left, exists_eq_right, Nat.reduceSub, Nat.zero_add, Nat.reduceAdd, Nat.reduceLT, decide_eq_true_eq, decide_true, decide_false, Bool.false_eq_true, if_true, if_false, ite_true, ite_false, nox_K, cxOf_K, hp, cDecree.cl, cDecree.n_moment, cDecree.n_offset, cDecree.n_summer, lk_Decree_moment, lk_Decree_offset, lk_Decree_summer, pn_Decree_moment, pn_Decree_offset, pn_Decree_summer, pu_Decree_moment, pu_Decree_offset, pu_Decree_summer, cSummer.cl, cSummer.n_more, cSummer.n_begins, cSummer.n_ends, lk_Summer_more, lk_Summer_begins, lk_Summer_ends, pn_Summer_more, pn_Summer_begins, pn_Summer_ends, pu_Summer_more, pu_Summer_begins, pu_Summer_ends]
      obtain ⟨dxs, pa, pb, hps, _, _⟩ := hS
      cases hin : inSummer a b u with
      | true =>
        rw [hin] at q
        simp only [tSeq, tAsg, tOp, tUn, tVar, tC, rI0, rI, rU, rEq, rNe, gName, tIfS, tTest, tB, tAnd, tOr, tNot, tAndV, tOrV, tNotV, tChain, tRet, tRetN, tNext, tDrop, tCall, tCons, tNil, tLst, tFld, sFld, scal_int, L2.start, List.map_cons, List.map_nil, List.length_cons, List.length_nil, List.replicate_succ, List.replicate_zero, List.cons_append, List.nil_append, List.append_nil, List.getElem?_cons_zero, List.getElem?_cons_succ, List.set_cons_zero, List.set_cons_succ, Option.some.injEq, V.int.injEq, V.bl.injEq, V.ref.injEq, HO.ins.injEq, HO.lst.injEq, List.cons.injEq, and_true, true_and, and_assoc, exists_and_left, exists_eq_left', exists_eq_left, exists_eq_right, Nat.reduceSub, Nat.zero_add, Nat.reduceAdd, Nat.reduceLT, decide_eq_true_eq, decide_true, decide_false, Bool.false_eq_true, if_true, if_false, ite_true, ite_false, nox_K, cxOf_K, hp, hps, cDecree.cl, cDecree.n_moment, cDecree.n_offset, cDecree.n_summer, lk_Decree_moment, lk_Decree_offset, lk_Decree_summer, pn_Decree_moment, pn_Decree_offset, pn_Decree_summer, pu_Decree_moment, pu_Decree_offset, pu_Decree_summer, cSummer.cl, cSummer.n_more, cSummer.n_begins, cSummer.n_ends, lk_Summer_more, lk_Summer_begins, lk_Summer_ends, pn_Summer_more, pn_Summer_begins, pn_Summer_ends, pu_Summer_more, pu_Summer_begins, pu_Summer_ends]
        exact q
      | false =>
        rw [hin, if_neg Bool.false_ne_true, Int.add_zero] at q
        simp only [tSeq, tAsg, tOp, tUn, tVar, tC, rI0, rI, rU, rEq, rNe, gName, tIfS, tTest, tB, tAnd, tOr, tNot, tAndV, tOrV, tNotV, tChain, tRet, tRetN, tNext, tDrop, tCall, tCons, tNil, tLst, tFld, sFld, scal_int, L2.start, List.map_cons, List.map_nil, List.length_cons, List.length_nil, List.replicate_succ, List.replicate_zero, List.cons_append, List.nil_append, List.append_nil, List.getElem?_cons_zero, List.getElem?_cons_succ, List.set_cons_zero, List.set_cons_succ, Option.some.injEq, V.int.injEq, V.bl.injEq, V.ref.injEq, HO.ins.injEq, HO.lst.injEq, List.cons.injEq, and_true, true_and, and_assoc, exists_and_left, exists_eq_left', exists_eq_left, exists_eq_right, Nat.reduceSub, Nat.zero_add, Nat.reduceAdd, Nat.reduceLT, decide_eq_true_eq, decide_true, decide_false, Bool.false_eq_true, if_true, if_false, ite_true, ite_false, nox_K, cxOf_K, hp, hps, cDecree.cl, cDecree.n_moment, cDecree.n_offset, cDecree.n_summer, lk_Decree_moment, lk_Decree_offset, lk_Decree_summer, pn_Decree_moment, pn_Decree_offset, pn_Decree_summer, pu_Decree_moment, pu_Decree_offset, pu_Decree_summer, cSummer.cl, cSummer.n_more, cSummer.n_begins, cSummer.n_ends, lk_Summer_more, lk_Summer_begins, lk_Summer_ends, pn_Summer_more, pn_Summer_begins, pn_Summer_ends, pu_Summer_more, pu_Summer_begins, pu_Summer_ends]
        exact q
theorem ok_possible_aheads (cSummer : IsSummer K mg cS) (cDecree : IsDecree K mg cD) (D : Def K mg "possible_aheads" s_possible_aheads ["decree"]) : Is P w K mg base 1 "possible_aheads" ["decree"] (spPossible cT cS cD) := by
  refine Is.by D fun f fd F => F.ok sc_possible_aheads (fun vs H Q E h => ?_) (fun cdv A outer s H vs Q E hr h => ?_)
  · obtain ⟨_, _, rfl, _⟩ := h
    rfl
  · obtain ⟨p, d, rfl, ⟨dx, v, hp, hv⟩, q⟩ := h
    refine ⟨_, (pss_cons (ps_if (pt_cmpR op_isN (pe_fld (pv 0) rfl) pe_non (nomark _)) (pss_one (ps_ret (pe_lst (pa_cons (pe_fld (pv 0) rfl) pa_nil)))) pss_nil)
    (pss_one (ps_ret (pe_lst (pa_cons (pe_fld (pv 0) rfl) (pa_cons (pe_op op_add (pe_fld (pv 0) rfl) (pe_fld (pe_fld (pv 0) rfl) rfl)) pa_nil)))))), ?_⟩
    simp only [tSeq, tAsg, tOp, tUn, tVar, tC, rI0, rI, rU, rEq, rNe, gName, tIfS, tTest, tB, tAnd, tOr, tNot, tAndV, tOrV, tNotV, tChain, tRet, tRetN, tNext, tDrop, tCall, tCons, tNil, tLst, tFld, sFld, scal_int, L2.start, List.map_cons, List.map_nil, List.length_cons, List.length_nil, List.replicate_succ, List.replicate_zero, List.cons_append, List.nil_append, List.append_nil, List.getElem?_cons_zero, List.getElem?_cons_succ, List.set_cons_zero, List.set_cons_succ, Option.some.injEq, V.int.injEq, V.bl.injEq, V.ref.injEq, HO.ins.injEq, HO.lst.injEq, List.cons.injEq, and_true, true_and, and_assoc, exists_and_left, exists_eq_left', exists_eq_left, exists_eq_right, Nat.reduceSub, Nat.zero_add, Nat.reduceAdd, Nat.reduceLT, decide_eq_true_eq, decide_true, decide_false, Bool.false_eq_true, if_true, if_false, ite_true, ite_false, nox_K, cxOf_K, hp, cDecree.cl, cDecree.n_moment, cDecree.n_offset, cDecree.n_summer, lk_Decree_moment, lk_Decree_offset, lk_Decree_summer, pn_Decree_moment, pn_Decree_offset, pn_Decree_summer, pu_Decree_moment, pu_Decree_offset, pu_Decree_summer, cSummer.cl, cSummer.n_more, cSummer.n_begins, cSummer.n_ends, lk_Summer_more, lk_Summer_begins, lk_Summer_ends, pn_Summer_more, pn_Summer_begins, pn_Summer_ends, pu_Summer_more, pu_Summer_begins, pu_Summer_ends]
    unfold aheads at q
    cases hs : d.summer with
    | none =>
      rw [hs] at hv q
      have hv' : v = .non := hv
      subst hv'
      simp only [tSeq, tAsg, tOp, tUn, tVar, tC, rI0, rI, rU, rEq, rNe, gName, tIfS, tTest, tB, tAnd, tOr, tNot, tAndV, tOrV, tNotV, tChain, tRet, tRetN, tNext, tDrop, tCall, tCons, tNil, tLst, tFld, sFld, scal_int, L2.start, List.map_cons, List.map_nil, List.length_cons, List.length_nil, List.replicate_succ, List.replicate_zero, List.cons_append, List.nil_append, List.append_nil, List.getElem?_cons_zero, List.getElem?_cons_succ, List.set_cons_zero, List.set_cons_succ, Option.some.injEq, V.int.injEq, V.bl.injEq, V.ref.injEq, HO.ins.injEq, HO.lst.injEq, List.cons.injEq, and_true, true_and, and_assoc, exists_and_left, exists_eq_left', exists_eq_left, exists_eq_right, Nat.reduceSub, Nat.zero_add, Nat.reduceAdd, Nat.reduceLT, decide_eq_true_eq, decide_true, decide_false, Bool.false_eq_true, if_true, if_false, ite_true, ite_false, nox_K, cxOf_K, hp, cDecree.cl, cDecree.n_moment, cDecree.n_offset, cDecree.n_summer, lk_Decree_moment, lk_Decree_offset, lk_Decree_summer, pn_Decree_moment, pn_Decree_offset, pn_Decree_summer, pu_Decree_moment, pu_Decree_offset, pu_Decree_summer, cSummer.cl, cSummer.n_more, cSummer.n_begins, cSummer.n_ends, lk_Summer_more, lk_Summer_begins, lk_Summer_ends, pn_Summer_more, pn_Summer_begins, pn_Summer_ends, pu_Summer_more, pu_Summer_begins, pu_Summer_ends]
      exact ⟨by decide, q⟩
    | some t =>
      obtain ⟨x, a, b⟩ := t
      rw [hs] at hv q
      obtain ⟨ps, rfl, dxs, pa, pb, hps, _, _⟩ := hv
      rw [if_neg (show ¬ V.ref ps = V.non from fun z => by cases z)]
      simp only [tSeq, tAsg, tOp, tUn, tVar, tC, rI0, rI, rU, rEq, rNe, gName, tIfS, tTest, tB, tAnd, tOr, tNot, tAndV, tOrV, tNotV, tChain, tRet, tRetN, tNext, tDrop, tCall, tCons, tNil, tLst, tFld, sFld, scal_int, L2.start, List.map_cons, List.map_nil, List.length_cons, List.length_nil, List.replicate_succ, List.replicate_zero, List.cons_append, List.nil_append, List.append_nil, List.getElem?_cons_zero, List.getElem?_cons_succ, List.set_cons_zero, List.set_cons_succ, Option.some.injEq, V.int.injEq, V.bl.injEq, V.ref.injEq, HO.ins.injEq, HO.lst.injEq, List.cons.injEq, and_true, true_and, and_assoc, exists_and_left, exists_eq_left', exists_eq_left, exists_eq_right, Nat.reduceSub, Nat.zero_add, Nat.reduceAdd, Nat.reduceLT, decide_eq_true_eq, decide_true, decide_false, Bool.false_eq_true, if_true, if_false, ite_true, ite_false, nox_K, cxOf_K, hp, hps, cDecree.cl, cDecree.n_moment, cDecree.n_offset, cDecree.n_summer, lk_Decree_moment, lk_Decree_offset, lk_Decree_summer, pn_Decree_moment, pn_Decree_offset, pn_Decree_summer, pu_Decree_moment, pu_Decree_offset, pu_Decree_summer, cSummer.cl, cSummer.n_more, cSummer.n_begins, cSummer.n_ends, lk_Summer_more, lk_Summer_begins, lk_Summer_ends, pn_Summer_more, pn_Summer_begins, pn_Summer_ends, pu_Summer_more, pu_Summer_begins, pu_Summer_ends]
      exact ⟨by decide, q⟩
end
end Pc
namespace Pc
open PySem PySem.Spec PyProof.Rows L2 PcR PcM
open Cl02 (Turn Decree Place)
/-! ### the turn behind a moment -/
theorem map_at {α β : Type} {f : α → β} {l : List α} {i : Nat} {y : β} (h : (l.map f)[i]? = some y) : ∃ x, l[i]? = some x ∧ x ∈ l ∧ y = f x := by
  rw [List.getElem?_map] at h
  cases e : l[i]? with
  | none =>
    rw [e] at h
    cases h
  | some x =>
    rw [e] at h
    exact ⟨x, rfl, List.mem_of_getElem? e, (Option.some.inj h).symm⟩
theorem take_one {α : Type} {l : List α} {i : Nat} {x : α} (h : l[i]? = some x) : l.take (i + 1) = l.take i ++ [x] := by
  rw [List.take_add_one, h]
  rfl
theorem same_upd {H H' : Hp} {L : Addr} {o : HO} (n : H L = none) (s : Same H H') : Same H (upd H' L o) := fun b x h => by
  rw [upd_ne (ne_of_none h n)]
  exact s _ _ h
theorem len_line {α : Type} {l : List α} {n : Nat} (h : l.length ≤ n) (k : n < 100 := by decide) : l.length < sizeLine := Nat.lt_of_le_of_lt h (Nat.lt_trans k (by decide))
theorem blk_K {X : Cx} {s : Shared} {H : Hp} {sc : Scope} {ce : Env} {fp : List Addr} : (X.blk s H sc ce fp).K = X.K := rfl
def spNextTurn (cT cS : Addr) : Sp := fun vs H Q _ => ∃ (p : Addr) (x : Nat) (a b : Turn) (u : Nat), vs = [.ref p, .int u] ∧ SumAt cT cS H p x a b ∧ OkT a ∧ OkT b ∧
  ∀ (H' : Hp) (t : Nat), Same H H' → Least (fun t => u < t ∧ TurnM a b t) t → Q (.int t) H'
abbrev s_next_turn : Stmt := topS 29
abbrev N_next_turn : List Str := ["summer", "moment", "year", "found", "each", "turn"]
theorem sc_next_turn : FnScope ["summer", "moment", "year", "found", "each", "turn"] ["summer", "moment"] (defScope s_next_turn) := ⟨rfl, rfl, rfl, by decide +kernel, rfl, by decide +kernel, by decide +kernel⟩
section
variable {P : Program} {w : World} {K : PySem.W.Frag} {mg : Str → Option Value} {base : Heap} {cT cS : Addr}
theorem ok_next_turn (T : Txt mg) (cSummer : IsSummer K mg cS) (I_year_of : Is P w K mg base 1 "year_of" ["day"] spYearOf) (I_moment_of_turn : Is P w K mg base 4 "moment_of_turn" ["turn", "year"] (spMomentOfTurn cT)) (D : Def K mg "next_turn" s_next_turn ["summer", "moment"]) :
    Is P w K mg base 5 "next_turn" ["summer", "moment"] (spNextTurn cT cS) := by
  refine Is.by D fun f fd F => F.ok sc_next_turn (fun vs H Q E h => ?_) (fun cdv A outer s H vs Q E hr h => ?_)
  · obtain ⟨_, _, _, _, _, rfl, _⟩ := h
    rfl
  · obtain ⟨p, x, a, b, u, rfl, hS, oa, ob, q⟩ := h
    have hS0 := hS
    obtain ⟨dx, pa, pb, hp, ha, hb⟩ := hS
    refine ⟨_, (pss_cons (ps_set (i := 2) sc_next_turn.nd rfl (Or.inl rfl) (pe_is I_year_of (hr.mono (by decide)) rfl (pa_cons (pe_op op_fdiv (pv 1) (pe_cst T.g_MINUTES_OF_DAY rfl)) pa_nil)))
    (pss_cons (ps_set (i := 3) sc_next_turn.nd rfl (Or.inl rfl) (pe_lst pa_nil))
    (pss_cons (ps_for PassesOwn.never rfl (pi_tup (pe_tup (pa_cons (pv 2) (pa_cons (pe_op op_add (pv 2) pe_int) pa_nil)))) (pg_name (i := 4) sc_next_turn.nd rfl (Or.inl rfl)) (pss_cons (ps_expr (pe_bm PySem.F.plainAttrs_list PySem.F.slot_list_append PySem.F.type_list_append mt_append (pv 3) (pa_cons (pe_is I_moment_of_turn (hr.mono (by decide)) rfl (pa_cons (pe_fld (pv 0) rfl) (pa_cons (pv 4) pa_nil))) pa_nil)))
    (pss_one (ps_expr (pe_bm PySem.F.plainAttrs_list PySem.F.slot_list_append PySem.F.type_list_append mt_append (pv 3) (pa_cons (pe_is I_moment_of_turn (hr.mono (by decide)) rfl (pa_cons (pe_fld (pv 0) rfl) (pa_cons (pv 4) pa_nil))) pa_nil))))))
    (pss_one (ps_ret (pe_callB (cr_min rfl) (by rfl) T.n_min (by decide +kernel) (pa_cons (pe_lc (te := (tVar 5)) (own := [("turn", 5)]) (g := gName 5) rfl sc_next_turn.nd (pi_list (pv 3)) (blkOk_by (N := N_next_turn) (sc := defScope s_next_turn) (by decide +kernel)) (fun _ _ _ _ _ => pg_name (i := 5) sc_next_turn.nd rfl (Or.inl rfl)) (fun _ _ _ _ _ => by exact (pts_one (pt_cmpR op_gt (pv 5) (pv 1) (nomark _)))) (fun _ _ _ _ _ => by exact (pv 5))) pa_nil))))))), ?_⟩
    simp only [tSeq, tAsg, tOp, tUn, tVar, tC, rI0, rI, rU, rEq, rNe, gName, tIfS, tTest, tB, tAnd, tOr, tNot, tAndV, tOrV, tNotV, tChain, tRet, tRetN, tNext, tDrop, tCall, tCons, tNil, tLst, tFld, sFld, scal_int, L2.start, List.map_cons, List.map_nil, List.length_cons, List.length_nil, List.replicate_succ, List.replicate_zero, List.cons_append, List.nil_append, List.append_nil, List.getElem?_cons_zero, List.getElem?_cons_succ, List.set_cons_zero, List.set_cons_succ, Option.some.injEq, V.int.injEq, V.bl.injEq, V.ref.injEq, HO.ins.injEq, HO.lst.injEq, List.cons.injEq, and_true, true_and, and_assoc, exists_and_left, exists_eq_left', exists_eq_left, exists_eq_right, Nat.reduceSub, Nat.zero_add, Nat.reduceAdd, Nat.reduceLT, decide_eq_true_eq, decide_true, decide_false, Bool.false_eq_true, if_true, if_false, ite_true, ite_false, nox_K, cxOf_K, hp, cSummer.cl, cSummer.n_more, cSummer.n_begins, cSummer.n_ends, lk_Summer_more, lk_Summer_begins, lk_Summer_ends, pn_Summer_more, pn_Summer_begins, pn_Summer_ends, pu_Summer_more, pu_Summer_begins, pu_Summer_ends]
    refine ⟨⟨by decide, by decide⟩, _, rfl, by omega, ?_⟩
    simp only [tSeq, tAsg, tOp, tUn, tVar, tC, rI0, rI, rU, rEq, rNe, gName, tIfS, tTest, tB, tAnd, tOr, tNot, tAndV, tOrV, tNotV, tChain, tRet, tRetN, tNext, tDrop, tCall, tCons, tNil, tLst, tFld, sFld, scal_int, L2.start, List.map_cons, List.map_nil, List.length_cons, List.length_nil, List.replicate_succ, List.replicate_zero, List.cons_append, List.nil_append, List.append_nil, List.getElem?_cons_zero, List.getElem?_cons_succ, List.set_cons_zero, List.set_cons_succ, Option.some.injEq, V.int.injEq, V.bl.injEq, V.ref.injEq, HO.ins.injEq, HO.lst.injEq, List.cons.injEq, and_true, true_and, and_assoc, exists_and_left, exists_eq_left', exists_eq_left, exists_eq_right, Nat.reduceSub, Nat.zero_add, Nat.reduceAdd, Nat.reduceLT, decide_eq_true_eq, decide_true, decide_false, Bool.false_eq_true, if_true, if_false, ite_true, ite_false, nox_K, cxOf_K, iTup, tTup, tBM, tCB, rMin]
    refine ⟨Nat.zero_le _, fun F0 nF => ?_⟩
    have eu : ((u : Int) / 1440).toNat = u / 1440 := by omega
    rw [eu]
    obtain ⟨y, hy⟩ : ∃ y, Cl01.yearOf (u / 1440) = y := ⟨_, rfl⟩
    rw [hy]
    obtain ⟨N, hN⟩ : ∃ N : Nat → L2.St → Hp → Prop, N = fun i σ H' => Same H H' ∧ H' F0 = some (.lst (natV ((turnsBy a b y).take (2 * i)))) ∧ ∃ v4, σ = [some (V.ref p), some (V.int u), some (V.int (2000 + y)), some (V.ref F0), v4, none] := ⟨_, rfl⟩
    refine ⟨_, rfl, _, rfl, _, _, rfl, rfl, by show 2 ≤ sizeLine; decide, fun T0 nT => ⟨T0, rfl, ⟨_, .inl (.inl upd_same)⟩, for_tup (K := K) (a := T0) (xs := [V.int (2000 + y), V.int (2000 + y + 1)]) (fun i σ H' => H' T0 = some (.tup [V.int (2000 + y), V.int (2000 + y + 1)]) ∧ N i σ H') ?_ (fun i σ H' hi h => .inl (.inl h.1)) (fun i z σ H' hx h => ?_) (fun σ H' h => ?_)⟩⟩
    · rw [hN]
      exact ⟨upd_same, fun b o h => same_new nT _ _ (same_new nF _ _ h), by rw [upd_ne (ne_of_none upd_same nT), upd_same]; rfl, none, rfl⟩
    · obtain ⟨hT, h⟩ := h
      rw [hN] at h
      obtain ⟨s1, hF, v4, rfl⟩ := h
      obtain ⟨rfl, e1, lt2⟩ : z = V.int (2000 + ((y + i : Nat) : Int)) ∧ (turnsBy a b y).take (2 * (i + 1)) = (turnsBy a b y).take (2 * i) ++ [Cl02.turnAt (y + i) a, Cl02.turnAt (y + i) b] ∧ i < 2 := by
        match i, hx with
        | 0, hx =>
          injection hx with hx
          exact ⟨hx.symm, rfl, by decide⟩
        | 1, hx =>
          injection hx with hx
          refine ⟨?_, rfl, by decide⟩
          rw [← hx]
          exact congrArg V.int (by omega)
      have nTF : F0 ≠ T0 := fun e => by
        rw [e, hT] at hF
        cases hF
      have lt4 : ((turnsBy a b y).take (2 * i)).length ≤ 4 := List.length_take_le' _ _
      have hS1 := hS0.same s1
      obtain ⟨dx1, pa1, pb1, hp1, ha1, hb1⟩ := hS1
      simp only [tSeq, tAsg, tOp, tUn, tVar, tC, rI0, rI, rU, rEq, rNe, gName, tIfS, tTest, tB, tAnd, tOr, tNot, tAndV, tOrV, tNotV, tChain, tRet, tRetN, tNext, tDrop, tCall, tCons, tNil, tLst, tFld, sFld, scal_int, L2.start, List.map_cons, List.map_nil, List.length_cons, List.length_nil, List.replicate_succ, List.replicate_zero, List.cons_append, List.nil_append, List.append_nil, List.getElem?_cons_zero, List.getElem?_cons_succ, List.set_cons_zero, List.set_cons_succ, Option.some.injEq, V.int.injEq, V.bl.injEq, V.ref.injEq, HO.ins.injEq, HO.lst.injEq, List.cons.injEq, and_true, true_and, and_assoc, exists_and_left, exists_eq_left', exists_eq_left, exists_eq_right, Nat.reduceSub, Nat.zero_add, Nat.reduceAdd, Nat.reduceLT, decide_eq_true_eq, decide_true, decide_false, Bool.false_eq_true, if_true, if_false, ite_true, ite_false, nox_K, cxOf_K, tBM, hp1, rAppend, cSummer.cl, cSummer.n_more, cSummer.n_begins, cSummer.n_ends, lk_Summer_more, lk_Summer_begins, lk_Summer_ends, pn_Summer_more, pn_Summer_begins, pn_Summer_ends, pu_Summer_more, pu_Summer_begins, pu_Summer_ends]
      refine ⟨.inl ⟨rfl, _, .inl (.inl hF)⟩, pa1, a, y + i, rfl, ha1, oa, ?_⟩
      refine ⟨_, hF, len_line (n := 4) (by rw [List.length_map]; exact lt4), ?_⟩
      have s2 : Same H (upd H' F0 (HO.lst (natV ((turnsBy a b y).take (2 * i)) ++ [V.int (Cl02.turnAt (y + i) a : Nat)]))) := same_upd nF s1
      obtain ⟨dx2, pa2, pb2, hp2, ha2, hb2⟩ := hS0.same s2
      refine ⟨.inl ⟨rfl, _, .inl (.inl upd_same)⟩, cS, dx2, _, hp2, cSummer.cl, cSummer.n_ends, _, lk_Summer_ends, pb2, b, y + i, rfl, hb2, ob, ?_⟩
      refine ⟨_, upd_same, len_line (n := 5) (by rw [List.length_append, List.length_map, List.length_singleton]; omega), ?_, ?_⟩
      · rw [upd_ne (Ne.symm nTF), upd_ne (Ne.symm nTF)]
        exact hT
      · rw [upd_upd, hN]
        refine ⟨same_upd nF s1, ?_, _, rfl⟩
        rw [upd_same, e1, natV, natV, List.map_append, List.append_assoc]
        rfl
    · obtain ⟨hT, h⟩ := h
      rw [hN] at h
      obtain ⟨s1, hF, v4, rfl⟩ := h
      simp only [tSeq, tAsg, tOp, tUn, tVar, tC, rI0, rI, rU, rEq, rNe, gName, tIfS, tTest, tB, tAnd, tOr, tNot, tAndV, tOrV, tNotV, tChain, tRet, tRetN, tNext, tDrop, tCall, tCons, tNil, tLst, tFld, sFld, scal_int, L2.start, List.map_cons, List.map_nil, List.length_cons, List.length_nil, List.replicate_succ, List.replicate_zero, List.cons_append, List.nil_append, List.append_nil, List.getElem?_cons_zero, List.getElem?_cons_succ, List.set_cons_zero, List.set_cons_succ, Option.some.injEq, V.int.injEq, V.bl.injEq, V.ref.injEq, HO.ins.injEq, HO.lst.injEq, List.cons.injEq, and_true, true_and, and_assoc, exists_and_left, exists_eq_left', exists_eq_left, exists_eq_right, Nat.reduceSub, Nat.zero_add, Nat.reduceAdd, Nat.reduceLT, decide_eq_true_eq, decide_true, decide_false, Bool.false_eq_true, if_true, if_false, ite_true, ite_false, nox_K, cxOf_K, rMin, tCB, iList]
      refine ⟨_, rfl, F0, rfl, ⟨_, .inl (.inl hF)⟩, fun D nD => ?_⟩
      have eF : (turnsBy a b y).take (2 * [V.int (2000 + y), V.int (2000 + y + 1)].length) = turnsBy a b y := rfl
      rw [eF] at hF
      refine lc_list (K := K) (a := F0) (xs := natV (turnsBy a b y)) (fun i H2 => Same H' H2 ∧ H2 D = some (.lst (natV (((turnsBy a b y).take i).filter fun t => decide (u < t))))) ⟨same_new nD, by rw [upd_same]; rfl⟩ (fun i H2 hi h => .inl (.inl (h.1 _ _ hF))) (fun i z H2 hx h => ?_) (fun H2 h => ?_)
      · obtain ⟨t, et, mt, rfl⟩ := map_at hx
        simp only [tSeq, tAsg, tOp, tUn, tVar, tC, rI0, rI, rU, rEq, rNe, gName, tIfS, tTest, tB, tAnd, tOr, tNot, tAndV, tOrV, tNotV, tChain, tRet, tRetN, tNext, tDrop, tCall, tCons, tNil, tLst, tFld, sFld, scal_int, L2.start, List.map_cons, List.map_nil, List.length_cons, List.length_nil, List.replicate_succ, List.replicate_zero, List.cons_append, List.nil_append, List.append_nil, List.getElem?_cons_zero, List.getElem?_cons_succ, List.set_cons_zero, List.set_cons_succ, Option.some.injEq, V.int.injEq, V.bl.injEq, V.ref.injEq, HO.ins.injEq, HO.lst.injEq, List.cons.injEq, and_true, true_and, and_assoc, exists_and_left, exists_eq_left', exists_eq_left, exists_eq_right, Nat.reduceSub, Nat.zero_add, Nat.reduceAdd, Nat.reduceLT, decide_eq_true_eq, decide_true, decide_false, Bool.false_eq_true, if_true, if_false, ite_true, ite_false, nox_K, cxOf_K, wipe, blk_K]
        have ft : ((turnsBy a b y).take (i + 1)).filter (fun t => decide (u < t)) = ((turnsBy a b y).take i).filter (fun t => decide (u < t)) ++ [t].filter (fun t => decide (u < t)) := by
          rw [take_one et, List.filter_append]
        rw [ft]
        by_cases hu : u < t
        · rw [if_pos (Int.ofNat_lt.mpr hu)]
          refine ⟨_, h.2, len_line (n := 4) ?_, same_upd nD h.1, ?_⟩
          · rw [List.length_map]
            exact Nat.le_trans (List.length_filter_le _ _) (List.length_take_le' _ _)
          · rw [upd_same, List.filter_cons, if_pos (decide_eq_true hu), natV, natV, List.map_append]
            rfl
        · rw [if_neg fun z => hu (Int.ofNat_lt.mp z)]
          refine ⟨h.1, ?_⟩
          rw [List.filter_cons, if_neg (fun z => hu (of_decide_eq_true z)), List.filter_nil, List.append_nil]
          exact h.2
      · obtain ⟨s3, hD⟩ := h
        rw [List.take_of_length_le (by rw [List.length_map]; exact Nat.le_refl _)] at hD
        have eD : natV ((turnsBy a b y).filter fun t => decide (u < t)) = (((turnsBy a b y).filter fun t => decide (u < t)).map fun (t : Nat) => (t : Int)).map V.int := by
          rw [List.map_map]
          rfl
        rw [eD] at hD
        have hx := turnsBy_ex b oa u
        rw [hy] at hx
        have mx : Cl02.turnAt (y + 1) a ∈ (turnsBy a b y).filter fun t => decide (u < t) := List.mem_filter.mpr ⟨hx.1, decide_eq_true hx.2⟩
        refine ⟨D, rfl, _, .inl (.inl hD), by rw [List.length_map]; exact List.length_pos_of_mem mx, fun m hm hl => ?_⟩
        obtain ⟨t, t0, rfl⟩ := List.mem_map.mp hm
        obtain ⟨t1, t2⟩ := List.mem_filter.mp t0
        refine q H2 t (fun b o h => s3 _ _ (s1 _ _ h)) (turnsBy_least oa ob (by rw [hy]; exact t1) (of_decide_eq_true t2) fun c hc huc => ?_)
        rw [hy] at hc
        exact Int.ofNat_le.mp (hl c (List.mem_map.mpr ⟨c, List.mem_filter.mpr ⟨hc, decide_eq_true huc⟩, rfl⟩))
end
end Pc
namespace Pc
open PySem PySem.Spec PyProof.Rows L2 PcR PcM
open Cl02 (Turn Decree)
/-! ### clocks -/
theorem lk_Place_decrees {x0 : V} : List.lookup ("decrees" : Str) ([("decrees", x0)] : List (Str × V)) = some x0 := lkh
theorem pn_Place_decrees { v : V} : putF ("decrees" : Str) v ([] : List (Str × V)) = ([("decrees", v)] : List (Str × V)) := rfl
theorem pu_Place_decrees {x0 v : V} : putF ("decrees" : Str) v ([("decrees", x0)] : List (Str × V)) = ([("decrees", v)] : List (Str × V)) := puth
/-- the class Place -/
structure IsPlace (K : PySem.W.Frag) (mg : Str → Option Value) (C : Addr) : Prop where
  cl : Cls K C
  at_ : mg "Place" = some (.ref C)
  n_decrees : NoAttr K C "decrees"
section
variable {w : World} {P : Program} {K : PySem.W.Frag} {mg : Str → Option Value} {base : Heap}
/-- a def whose code object is known: its body as a term of rules -/
theorem fun_okC {x qual : Str} {st : Stmt} {f c : Addr} {fd : FuncData} {N ps : List Str} {k : Nat} {sp : Sp} (F : Fun K x qual st f fd) (hc : fd.code = .ref c) (S : FnScope N ps (defScope st)) (ln : ∀ vs H Q E, sp vs H Q E → vs.length = ps.length)
    (hb : ∀ (A : Around) (outer : List Env) (s : Shared) (H : Hp) (vs : List V) (Q : VK) (E : XK), Room k (A.deeper (envOfC qual (defScope st) s.heap.objs.size f (.ref c))) → sp vs H Q E →
      ∃ t, PSs (cxOf CX0 P w K mg base N qual (defScope st) f (.ref c) A outer s H E).nox (defBody st) t ∧ t { nx := fun _ H' => Q .non H', rt := Q } (start N vs) H) :
    FnOk P w K mg base CX0 (k + 1) f fd ps sp := by
  obtain ⟨oc, od, kD, doc, pm, an, cdv, ct, osl, rfl, lk, hcd⟩ := F.ex
  obtain rfl : cdv = .ref c := hc
  refine fn_of lk hcd S ln fun A outer s H vs Q E hr hsp => ?_
  obtain ⟨t, h, q⟩ := hb A outer s H vs Q E hr hsp
  exact ⟨t, h.nox, q⟩
/-- the module's name x is the def that the text st writes, its code object at c -/
def DefC (K : PySem.W.Frag) (mg : Str → Option Value) (x : Str) (st : Stmt) (ps : List Str) (c : Addr) : Prop :=
  ∃ f fd, Fun K x x st f fd ∧ mg x = some (.ref f) ∧ Binds K fd ps [] ∧ fd.code = .ref c
theorem Is.byC {k : Nat} {x : Str} {st : Stmt} {ps : List Str} {c : Addr} {sp : Sp} (D : DefC K mg x st ps c) (h : ∀ f fd, Fun K x x st f fd → fd.code = .ref c → FnOk P w K mg base CX0 k f fd ps sp) : Is P w K mg base k x ps sp := by
  obtain ⟨f, fd, F, m, b, hc⟩ := D
  exact ⟨f, fd, h f fd F hc, m, F.kp, b⟩
end
theorem cxOf_w {CX : CXT} {P : Program} {w : World} {K : PySem.W.Frag} {mg : Str → Option Value} {base : Heap} {N : List Str} {q : Str} {sc : Scope} {f : Addr} {cd : Value} {A : Around} {outer : List Env} {s : Shared} {H : Hp} {E : XK} : (cxOf CX P w K mg base N q sc f cd A outer s H E).w = w := rfl
theorem nox_w {X : Cx} : X.nox.w = X.w := rfl
theorem beq_int (a b : Nat) : decide ((a : Int) = (b : Int)) = (a == b) := by
  by_cases h : a = b
  · subst h
    rw [decide_eq_true rfl]
    exact (beq_self_eq_true a).symm
  · rw [decide_eq_false (by omega), beq_eq_false_iff_ne.mpr h]
/-! how places lie in the heap; what may be written without touching them -/
def refs (zs : List (Addr × Decree)) : List V := zs.map fun z => V.ref z.1
def PlaceAt (cT cS cD cP : Addr) (H : Hp) (p : Addr) (ds : List Decree) : Prop := ∃ (dx l : Addr) (zs : List (Addr × Decree)), H p = some (.ins cP dx [("decrees", .ref l)]) ∧ H l = some (.lst (refs zs)) ∧ zs.map (·.2) = ds ∧ ∀ z ∈ zs, DecAt cT cS cD H z.1 z.2
/-- all but what stands at p is kept -/
def But (p : Addr) (H H' : Hp) : Prop := ∀ b o, b ≠ p → H b = some o → H' b = some o
/-- all but what stands at p, and tables, is kept -/
def ButT (p : Addr) (H H' : Hp) : Prop := ∀ b o, b ≠ p → H b = some o → (∀ ps, o ≠ .tbl ps) → H' b = some o
/-- p is no part of a decree, and no list of decrees -/
def Loose (H : Hp) (p : Addr) : Prop := (∀ C dx fs, H p = some (.ins C dx fs) → fs.length ≤ 2) ∧ ∀ z r, H p = some (.lst (.ref z :: r)) → ∀ C dx fs, H z = some (.ins C dx fs) → fs.length ≤ 2
theorem But.trans {p : Addr} {H H1 H2 : Hp} (a : But p H H1) (b : But p H1 H2) : But p H H2 := fun c o n h => b c o n (a c o n h)
theorem But.t {p : Addr} {H H' : Hp} (a : But p H H') : ButT p H H' := fun b o n h _ => a b o n h
theorem ButT.trans {p : Addr} {H H1 H2 : Hp} (a : ButT p H H1) (b : ButT p H1 H2) : ButT p H H2 := fun c o n h t => b c o n (a c o n h t) t
theorem Same.but {p : Addr} {H H' : Hp} (s : Same H H') : But p H H' := fun b o _ h => s b o h
theorem Same.butT {p : Addr} {H H' : Hp} (s : Same H H') : ButT p H H' := fun b o _ h _ => s b o h
theorem But.upd {p : Addr} {H : Hp} {o : HO} : But p H (upd H p o) := fun b x n h => by
  rw [upd_ne n]
  exact h
theorem But.new {p q : Addr} {H : Hp} {o : HO} (h : H q = none) : But p H (L2.upd H q o) := Same.but (same_new h)
theorem loose_ins {H : Hp} {p C dx : Addr} {fs : List (Str × V)} (h : H p = some (.ins C dx fs)) (n : fs.length ≤ 2) : Loose H p := by
  refine ⟨fun C' dx' fs' h' => ?_, fun z r h' => ?_⟩
  · rw [h] at h'
    cases h'
    exact n
  · rw [h] at h'
    cases h'
theorem loose_ints {H : Hp} {p : Addr} {ns : List Int} (h : H p = some (.lst (ns.map V.int))) : Loose H p := by
  refine ⟨fun C' dx' fs' h' => ?_, fun z r h' => ?_⟩
  · rw [h] at h'
    cases h'
  · rw [h] at h'
    cases ns with
    | nil => cases h'
    | cons n ns => cases h'
theorem ButT.ins {p q C dx : Addr} {H H' : Hp} {fs : List (Str × V)} (s : ButT p H H') (f : Loose H p) (h : H q = some (.ins C dx fs)) (n : 2 < fs.length) : H' q = some (.ins C dx fs) := by
  refine s q _ ?_ h fun _ z => by cases z
  rintro rfl
  have := f.1 _ _ _ h
  omega
section
variable {cT cS cD cP p : Addr} {H H' : Hp}
theorem TurnAt.butT {q : Addr} {t : Turn} (s : ButT p H H') (f : Loose H p) (h : TurnAt cT H q t) : TurnAt cT H' q t := by
  obtain ⟨dx, h⟩ := h
  exact ⟨dx, s.ins f h (show 2 < 5 by decide)⟩
theorem SumAt.butT {q : Addr} {x : Nat} {a b : Turn} (s : ButT p H H') (f : Loose H p) (h : SumAt cT cS H q x a b) : SumAt cT cS H' q x a b := by
  obtain ⟨dx, pa, pb, h, ha, hb⟩ := h
  exact ⟨dx, pa, pb, s.ins f h (show 2 < 3 by decide), ha.butT s f, hb.butT s f⟩
theorem SumV.butT {v : V} {o : Option (Nat × Turn × Turn)} (s : ButT p H H') (f : Loose H p) (h : SumV cT cS H v o) : SumV cT cS H' v o := by
  cases o with
  | none => exact h
  | some q =>
    obtain ⟨p, e, h⟩ := h
    exact ⟨p, e, h.butT s f⟩
theorem DecAt.butT {q : Addr} {d : Decree} (s : ButT p H H') (f : Loose H p) (h : DecAt cT cS cD H q d) : DecAt cT cS cD H' q d := by
  obtain ⟨dx, v, h, hv⟩ := h
  exact ⟨dx, v, s.ins f h (show 2 < 3 by decide), hv.butT s f⟩
theorem PlaceAt.butT {q : Addr} {ds : List Decree} (s : ButT p H H') (f : Loose H p) (n : q ≠ p) (hd : ds ≠ []) (h : PlaceAt cT cS cD cP H q ds) : PlaceAt cT cS cD cP H' q ds := by
  obtain ⟨dx, l, zs, h, hl, e, hz⟩ := h
  refine ⟨dx, l, zs, s q _ n h (fun _ z => by cases z), s l _ ?_ hl (fun _ z => by cases z), e, fun z m => (hz z m).butT s f⟩
  rintro rfl
  cases zs with
  | nil => exact hd e.symm
  | cons z zs =>
    obtain ⟨dx', v, h', _⟩ := hz z (List.mem_cons_self ..)
    have := f.2 _ _ hl _ _ _ h'
    exact absurd this (show ¬ 3 ≤ 2 by decide)
theorem PlaceAt.same {q : Addr} {ds : List Decree} (s : Same H H') (h : PlaceAt cT cS cD cP H q ds) : PlaceAt cT cS cD cP H' q ds := by
  obtain ⟨dx, l, zs, h, hl, e, hz⟩ := h
  exact ⟨dx, l, zs, s _ _ h, s _ _ hl, e, fun z m => (hz z m).same s⟩
end
theorem tabs_but {T : List (Addr × Str)} {p : Addr} {H H' : Hp} (s : But p H H') (n : ∀ ps, H p ≠ some (.tbl ps)) (m : ∀ c q, H p ≠ some (LamX.CodeO c q)) (t : LamX.Tabs T H) : LamX.Tabs T H' := by
  intro r hr
  obtain ⟨ps, h1, h2, h3⟩ := t r hr
  refine ⟨ps, s _ _ (fun z => n ps (z ▸ h1)) h1, h2, fun pos cv hc => ?_⟩
  obtain ⟨c, e, h⟩ := h3 pos cv hc
  exact ⟨c, e, s _ _ (fun z => m _ _ (z ▸ h)) h⟩
/-- the number that the lambda of put_decree reads -/
noncomputable def keyO : Option HO → Int
  | some (.ins _ _ fs) => match fs.lookup ("moment" : Str) with
    | some (V.int i) => i
    | _ => 0
  | _ => 0
noncomputable def keyOfV (H : Hp) : V → Int
  | .ref a => keyO (H a)
  | _ => 0
theorem keyOfV_dec {cT cS cD q : Addr} {H : Hp} {d : Decree} (h : DecAt cT cS cD H q d) : keyOfV H (.ref q) = d.from_ := by
  obtain ⟨dx, v, h, _⟩ := h
  show keyO (H q) = _
  rw [h]
  show (match List.lookup ("moment" : Str) [("moment", V.int d.from_), ("offset", V.int d.offset), ("summer", v)] with
    | some (V.int i) => i
    | _ => 0) = _
  rw [lk_Decree_moment]
def lamName : Str := (("put_decree" : Str) ++ ".<locals>.") ++ "<lambda>"
/-! promises -/
def spPlaceInit (cT cS cD cP : Addr) : Sp := fun vs H Q _ => ∃ (p dx : Addr) (z : Int), vs = [.ref p, .int z] ∧ H p = some (.ins cP dx []) ∧
  ∀ H' : Hp, PlaceAt cT cS cD cP H' p [⟨0, z, none⟩] → But p H H' → Q .non H'
def spHasDecree (cT cS cD cP : Addr) : Sp := fun vs H Q _ => ∃ (p : Addr) (ds : List Decree) (m : Nat), vs = [.ref p, .int m] ∧ PlaceAt cT cS cD cP H p ds ∧ ds.length ≤ 8 ∧
  ∀ H' : Hp, Same H H' → Q (.bl (ds.any fun d => d.from_ == m)) H'
def spTakeDecree (cT cS cD cP : Addr) : Sp := fun vs H Q _ => ∃ (p : Addr) (ds : List Decree) (m : Nat), vs = [.ref p, .int m] ∧ PlaceAt cT cS cD cP H p ds ∧ ds.length ≤ 8 ∧
  ∀ H' : Hp, PlaceAt cT cS cD cP H' p (ds.filter fun d => d.from_ != m) → But p H H' → Q .non H'
def spPutDecree (cT cS cD cP Tb : Addr) : Sp := fun vs H Q _ => ∃ (p q : Addr) (ds : List Decree) (d : Decree), vs = [.ref p, .ref q] ∧ PlaceAt cT cS cD cP H p ds ∧ OkP ds ∧ DecAt cT cS cD H q d ∧ LamX.Tabs [(Tb, lamName)] H ∧
  ∀ H' : Hp, PlaceAt cT cS cD cP H' p (Cl02.put d ds) → ButT p H H' → LamX.Tabs [(Tb, lamName)] H' → Q .non H'
def spInForce (cT cS cD cP : Addr) : Sp := fun vs H Q _ => ∃ (p : Addr) (ds : List Decree) (u : Nat), vs = [.ref p, .int u] ∧ PlaceAt cT cS cD cP H p ds ∧ OkP ds ∧
  ∀ q, DecAt cT cS cD H q (Cl02.inForce ds u) → Q (.ref q) H
def spAheadAt (cT cS cD cP : Addr) : Sp := fun vs H Q _ => ∃ (p : Addr) (ds : List Decree) (u : Nat), vs = [.ref p, .int u] ∧ PlaceAt cT cS cD cP H p ds ∧ OkP ds ∧ Q (.int (Cl02.offsetAt ds u)) H
def spShownAt (cT cS cD cP : Addr) : Sp := fun vs H Q _ => ∃ (p : Addr) (ds : List Decree) (u : Nat), vs = [.ref p, .int u] ∧ PlaceAt cT cS cD cP H p ds ∧ OkP ds ∧ Q (.int (Cl02.shown ds u)) H
def spMoments (cT cS cD cP : Addr) : Sp := fun vs H Q _ => ∃ (p : Addr) (ds : List Decree) (l : Int), vs = [.ref p, .int l] ∧ PlaceAt cT cS cD cP H p ds ∧ OkP ds ∧
  ∀ (H' : Hp) (r : Addr), Same H H' → H' r = some (.lst (natV (Cl02.momentsOf ds l))) → Q (.ref r) H'
theorem aheads_len (d : Decree) : (aheads d).length ≤ 2 := by
  unfold aheads
  split
  · exact Nat.le_succ _
  · exact Nat.le_refl _
theorem tr_len (u : Int) : ∀ zs : List (Addr × Decree), (zs.flatMap fun z => (aheads z.2).map fun a => u - a).length ≤ 2 * zs.length
  | [] => Nat.le_refl _
  | z :: zs => by
    have h1 := aheads_len z.2
    have h2 := tr_len u zs
    rw [List.flatMap_cons, List.length_append, List.length_map, List.length_cons]
    omega
theorem mem_aheads {p : List Decree} {a : Int} (h : a ∈ Cl02.offsets p) : ∃ d ∈ p, a ∈ aheads d := by
  obtain ⟨d, hd, ha⟩ := List.mem_flatMap.mp h
  refine ⟨d, hd, ?_⟩
  unfold aheads
  revert ha
  cases d.summer with
  | none => exact id
  | some t => exact id
abbrev s_Place_init : Stmt := inClass (topS 34) 0
abbrev N_Place_init : List Str := ["self", "offset"]
theorem sc_Place_init : FnScope ["self", "offset"] ["self", "offset"] (defScope s_Place_init) := ⟨rfl, rfl, rfl, by decide +kernel, rfl, by decide +kernel, by decide +kernel⟩
abbrev s_has_decree_from : Stmt := topS 35
abbrev N_has_decree_from : List Str := ["place", "moment", "decree"]
theorem sc_has_decree_from : FnScope ["place", "moment", "decree"] ["place", "moment"] (defScope s_has_decree_from) := ⟨rfl, rfl, rfl, by decide +kernel, rfl, by decide +kernel, by decide +kernel⟩
abbrev s_take_decree : Stmt := topS 36
abbrev N_take_decree : List Str := ["place", "moment", "decree"]
theorem sc_take_decree : FnScope ["place", "moment", "decree"] ["place", "moment"] (defScope s_take_decree) := ⟨rfl, rfl, rfl, by decide +kernel, rfl, by decide +kernel, by decide +kernel⟩
abbrev s_put_decree : Stmt := topS 37
abbrev N_put_decree : List Str := ["place", "decree"]
theorem sc_put_decree : FnScope ["place", "decree"] ["place", "decree"] (defScope s_put_decree) := ⟨rfl, rfl, rfl, by decide +kernel, rfl, by decide +kernel, by decide +kernel⟩
abbrev s_decree_in_force : Stmt := topS 38
abbrev N_decree_in_force : List Str := ["place", "moment", "found", "decree"]
theorem sc_decree_in_force : FnScope ["place", "moment", "found", "decree"] ["place", "moment"] (defScope s_decree_in_force) := ⟨rfl, rfl, rfl, by decide +kernel, rfl, by decide +kernel, by decide +kernel⟩
abbrev s_ahead_at : Stmt := topS 39
abbrev N_ahead_at : List Str := ["place", "moment"]
theorem sc_ahead_at : FnScope ["place", "moment"] ["place", "moment"] (defScope s_ahead_at) := ⟨rfl, rfl, rfl, by decide +kernel, rfl, by decide +kernel, by decide +kernel⟩
abbrev s_shown_at : Stmt := topS 40
abbrev N_shown_at : List Str := ["place", "moment"]
theorem sc_shown_at : FnScope ["place", "moment"] ["place", "moment"] (defScope s_shown_at) := ⟨rfl, rfl, rfl, by decide +kernel, rfl, by decide +kernel, by decide +kernel⟩
abbrev s_moments_showing : Stmt := topS 41
abbrev N_moments_showing : List Str := ["place", "shown", "tried", "decree", "ahead", "moment"]
theorem sc_moments_showing : FnScope ["place", "shown", "tried", "decree", "ahead", "moment"] ["place", "shown"] (defScope s_moments_showing) := ⟨rfl, rfl, rfl, by decide +kernel, rfl, by decide +kernel, by decide +kernel⟩
section
variable {P : Program} {w : World} {K : PySem.W.Frag} {mg : Str → Option Value} {base : Heap} {cT cS cD cP : Addr}
theorem ok_Place_init (cDecree : IsDecree K mg cD) (cPlace : IsPlace K mg cP) (I_Decree : IsI P w K mg base 1 cD ["self", "moment", "offset", "summer"] (spDecreeInit cD)) (D : Ini K "Place.__init__" cP s_Place_init ["self", "offset"]) :
    IsI P w K mg base 3 cP ["self", "offset"] (spPlaceInit cT cS cD cP) := by
  refine IsI.by D fun f fd F => F.ok sc_Place_init (fun vs H Q E h => ?_) (fun cdv A outer s H vs Q E hr h => ?_)
  · obtain ⟨_, _, _, rfl, _⟩ := h
    rfl
  · obtain ⟨p, dx, z, rfl, hp, q⟩ := h
    refine ⟨_, (pss_one (ps_fld (pv 0) (pe_lst (pa_cons (pe_mk I_Decree cDecree.at_ (hr.mono (by decide)) rfl (pa_cons pe_int (pa_cons (pv 1) (pa_cons pe_non pa_nil)))) pa_nil)) rfl)), ?_⟩
    simp only [tSeq, tAsg, tOp, tUn, tVar, tC, rI0, rI, rU, rEq, rNe, gName, tIfS, tTest, tB, tAnd, tOr, tNot, tAndV, tOrV, tNotV, tChain, tRet, tRetN, tNext, tDrop, tCall, tCons, tNil, tLst, tFld, sFld, scal_int, L2.start, List.map_cons, List.map_nil, List.length_cons, List.length_nil, List.replicate_succ, List.replicate_zero, List.cons_append, List.nil_append, List.append_nil, List.getElem?_cons_zero, List.getElem?_cons_succ, List.set_cons_zero, List.set_cons_succ, Option.some.injEq, V.int.injEq, V.bl.injEq, V.ref.injEq, HO.ins.injEq, HO.lst.injEq, List.cons.injEq, and_true, true_and, and_assoc, exists_and_left, exists_eq_left', exists_eq_left, exists_eq_right, Nat.reduceSub, Nat.zero_add, Nat.reduceAdd, Nat.reduceLT, decide_eq_true_eq, decide_true, decide_false, Bool.false_eq_true, if_true, if_false, ite_true, ite_false, nox_K, cxOf_K, tMake, hp, cPlace.cl, cPlace.n_decrees, lk_Place_decrees, pn_Place_decrees, pu_Place_decrees]
    intro x dx' hx hdx hne
    have npx : p ≠ x := ne_of_none hp hx
    refine ⟨x, dx', .int 0, .int z, .non, rfl, upd_same, fun H2 h2 keep => ⟨rfl, by show 1 ≤ sizeLine; decide, fun L hL => ?_⟩⟩
    have h2p : H2 p = some (.ins cP dx []) := by
      rw [keep p npx, upd_ne npx, upd_ne (ne_of_none hp hdx)]
      exact hp
    have npL : p ≠ L := ne_of_none h2p hL
    have nxL : x ≠ L := ne_of_none h2 hL
    refine ⟨cP, dx, [], by rw [upd_ne npL]; exact h2p, cPlace.cl, cPlace.n_decrees, by decide, q _ ⟨dx, L, [(x, ⟨0, z, none⟩)], upd_same, ?_, rfl, fun y hy => ?_⟩ fun b o n h => ?_⟩
    · rw [upd_ne (Ne.symm npL), upd_same]
      rfl
    · rw [List.mem_singleton.mp hy]
      exact ⟨dx', .non, by rw [upd_ne (Ne.symm npx), upd_ne nxL]; exact h2, rfl⟩
    · have nbx : b ≠ x := ne_of_none h hx
      have h2b : H2 b = some o := by
        rw [keep b nbx, upd_ne nbx, upd_ne (ne_of_none h hdx)]
        exact h
      rw [upd_ne n, upd_ne (ne_of_none h2b hL)]
      exact h2b
theorem ok_has_decree_from (T : Txt mg) (cDecree : IsDecree K mg cD) (cPlace : IsPlace K mg cP) (D : Def K mg "has_decree_from" s_has_decree_from ["place", "moment"]) : Is P w K mg base 1 "has_decree_from" ["place", "moment"] (spHasDecree cT cS cD cP) := by
  refine Is.by D fun f fd F => F.ok sc_has_decree_from (fun vs H Q E h => ?_) (fun cdv A outer s H vs Q E hr h => ?_)
  · obtain ⟨_, _, _, rfl, _⟩ := h
    rfl
  · obtain ⟨p, ds, m, rfl, ⟨dx, l, zs, hp, hl, rfl, hz⟩, h8, q⟩ := h
    refine ⟨_, (pss_one (ps_ret (pe_callB (cr_any rfl) (by rfl) T.n_any (by decide +kernel) (pa_cons (pe_lc (tt := tYes) (te := (tOp rEq (tFld K (tVar 2) "moment") (tVar 1))) (own := [("decree", 2)]) (g := gName 2) rfl sc_has_decree_from.nd (pi_list (pe_fld (pv 0) rfl)) (blkOk_by (N := N_has_decree_from) (sc := defScope s_has_decree_from) (by decide +kernel)) (fun _ _ _ _ _ => pg_name (i := 2) sc_has_decree_from.nd rfl (Or.inl rfl)) (fun _ _ _ _ _ => by exact pts_nil) (fun _ _ _ _ _ => by exact (pe_cmpR op_eq (pe_fld (pv 2) rfl) (pv 1) (nomark _)))) pa_nil)))), ?_⟩
    simp only [tSeq, tAsg, tOp, tUn, tVar, tC, rI0, rI, rU, rEq, rNe, gName, tIfS, tTest, tB, tAnd, tOr, tNot, tAndV, tOrV, tNotV, tChain, tRet, tRetN, tNext, tDrop, tCall, tCons, tNil, tLst, tFld, sFld, scal_int, L2.start, List.map_cons, List.map_nil, List.length_cons, List.length_nil, List.replicate_succ, List.replicate_zero, List.cons_append, List.nil_append, List.append_nil, List.getElem?_cons_zero, List.getElem?_cons_succ, List.set_cons_zero, List.set_cons_succ, Option.some.injEq, V.int.injEq, V.bl.injEq, V.ref.injEq, HO.ins.injEq, HO.lst.injEq, List.cons.injEq, and_true, true_and, and_assoc, exists_and_left, exists_eq_left', exists_eq_left, exists_eq_right, Nat.reduceSub, Nat.zero_add, Nat.reduceAdd, Nat.reduceLT, decide_eq_true_eq, decide_true, decide_false, Bool.false_eq_true, if_true, if_false, ite_true, ite_false, nox_K, cxOf_K, tCB, iList, hp, cPlace.cl, cPlace.n_decrees, lk_Place_decrees, pn_Place_decrees, pu_Place_decrees]
    refine ⟨_, rfl, p, cP, dx, _, _, rfl, hp, cPlace.cl, cPlace.n_decrees, lk_Place_decrees, l, rfl, ⟨_, .inl (.inl hl)⟩, fun L nL => lc_list (K := K) (a := l) (xs := refs zs) (fun i H' => Same H H' ∧ H' L = some (.lst ((zs.map fun z => V.bl (z.2.from_ == m)).take i))) ⟨same_new nL, by rw [upd_same]; rfl⟩ (fun i H' hi h => .inl (.inl (h.1 _ _ hl))) (fun i x H' hx h => ?_) (fun H' h => ?_)⟩
    · obtain ⟨z, e, mz, rfl⟩ := map_at hx
      obtain ⟨dz, v, hd, hv⟩ := (hz z mz).same h.1
      simp only [tSeq, tAsg, tOp, tUn, tVar, tC, rI0, rI, rU, rEq, rNe, gName, tIfS, tTest, tB, tAnd, tOr, tNot, tAndV, tOrV, tNotV, tChain, tRet, tRetN, tNext, tDrop, tCall, tCons, tNil, tLst, tFld, sFld, scal_int, L2.start, List.map_cons, List.map_nil, List.length_cons, List.length_nil, List.replicate_succ, List.replicate_zero, List.cons_append, List.nil_append, List.append_nil, List.getElem?_cons_zero, List.getElem?_cons_succ, List.set_cons_zero, List.set_cons_succ, Option.some.injEq, V.int.injEq, V.bl.injEq, V.ref.injEq, HO.ins.injEq, HO.lst.injEq, List.cons.injEq, and_true, true_and, and_assoc, exists_and_left, exists_eq_left', exists_eq_left, exists_eq_right, Nat.reduceSub, Nat.zero_add, Nat.reduceAdd, Nat.reduceLT, decide_eq_true_eq, decide_true, decide_false, Bool.false_eq_true, if_true, if_false, ite_true, ite_false, nox_K, cxOf_K, wipe, tYes, hd, blk_K, cDecree.cl, cDecree.n_moment, cDecree.n_offset, cDecree.n_summer, lk_Decree_moment, lk_Decree_offset, lk_Decree_summer, pn_Decree_moment, pn_Decree_offset, pn_Decree_summer, pu_Decree_moment, pu_Decree_offset, pu_Decree_summer]
      refine ⟨_, h.2, len_line (n := 8) ?_, same_upd nL h.1, ?_⟩
      · rw [List.length_take, List.length_map]
        rw [List.length_map] at h8
        omega
      · rw [upd_same, beq_int, take_one (x := V.bl (z.2.from_ == m))]
        rw [List.getElem?_map, e]
        rfl
    · have e : List.take (refs zs).length (zs.map fun z => V.bl (z.2.from_ == m)) = (zs.map fun z => (z.2.from_ == m)).map V.bl := by
        rw [List.take_of_length_le (by rw [List.length_map, refs, List.length_map]; exact Nat.le_refl _), List.map_map]
        rfl
      have h2 := h.2
      rw [e] at h2
      refine ⟨L, _, rfl, .inl (.inl h2), ?_⟩
      have q' := q H' h.1
      rw [List.any_map] at q' ⊢
      exact q'
theorem ok_take_decree (cDecree : IsDecree K mg cD) (cPlace : IsPlace K mg cP) (D : Def K mg "take_decree" s_take_decree ["place", "moment"]) : Is P w K mg base 1 "take_decree" ["place", "moment"] (spTakeDecree cT cS cD cP) := by
  refine Is.by D fun f fd F => F.ok sc_take_decree (fun vs H Q E h => ?_) (fun cdv A outer s H vs Q E hr h => ?_)
  · obtain ⟨_, _, _, rfl, _⟩ := h
    rfl
  · obtain ⟨p, ds, m, rfl, ⟨dx, l, zs, hp, hl, rfl, hz⟩, h8, q⟩ := h
    refine ⟨_, (pss_one (ps_fld (pv 0) (pe_lc (tt := (tTest (tOp rNe (tFld K (tVar 2) "moment") (tVar 1)))) (te := (tVar 2)) (own := [("decree", 2)]) (g := gName 2) rfl sc_take_decree.nd (pi_list (pe_fld (pv 0) rfl)) (blkOk_by (N := N_take_decree) (sc := defScope s_take_decree) (by decide +kernel)) (fun _ _ _ _ _ => pg_name (i := 2) sc_take_decree.nd rfl (Or.inl rfl)) (fun _ _ _ _ _ => by exact (pts_one (pt_cmpR op_ne (pe_fld (pv 2) rfl) (pv 1) (nomark _)))) (fun _ _ _ _ _ => by exact (pv 2))) rfl)), ?_⟩
    simp only [tSeq, tAsg, tOp, tUn, tVar, tC, rI0, rI, rU, rEq, rNe, gName, tIfS, tTest, tB, tAnd, tOr, tNot, tAndV, tOrV, tNotV, tChain, tRet, tRetN, tNext, tDrop, tCall, tCons, tNil, tLst, tFld, sFld, scal_int, L2.start, List.map_cons, List.map_nil, List.length_cons, List.length_nil, List.replicate_succ, List.replicate_zero, List.cons_append, List.nil_append, List.append_nil, List.getElem?_cons_zero, List.getElem?_cons_succ, List.set_cons_zero, List.set_cons_succ, Option.some.injEq, V.int.injEq, V.bl.injEq, V.ref.injEq, HO.ins.injEq, HO.lst.injEq, List.cons.injEq, and_true, true_and, and_assoc, exists_and_left, exists_eq_left', exists_eq_left, exists_eq_right, Nat.reduceSub, Nat.zero_add, Nat.reduceAdd, Nat.reduceLT, decide_eq_true_eq, decide_true, decide_false, Bool.false_eq_true, if_true, if_false, ite_true, ite_false, nox_K, cxOf_K, iList, hp, cPlace.cl, cPlace.n_decrees, lk_Place_decrees, pn_Place_decrees, pu_Place_decrees]
    refine ⟨_, rfl, p, cP, dx, _, _, rfl, hp, cPlace.cl, cPlace.n_decrees, lk_Place_decrees, l, rfl, ⟨_, .inl (.inl hl)⟩, fun L nL => lc_list (K := K) (a := l) (xs := refs zs) (fun i H' => Same H H' ∧ H' L = some (.lst (refs ((zs.take i).filter fun z => z.2.from_ != m)))) ⟨same_new nL, by rw [upd_same]; rfl⟩ (fun i H' hi h => .inl (.inl (h.1 _ _ hl))) (fun i x H' hx h => ?_) (fun H' h => ?_)⟩
    · obtain ⟨z, e, mz, rfl⟩ := map_at hx
      obtain ⟨dz, v, hd, hv⟩ := (hz z mz).same h.1
      simp only [tSeq, tAsg, tOp, tUn, tVar, tC, rI0, rI, rU, rEq, rNe, gName, tIfS, tTest, tB, tAnd, tOr, tNot, tAndV, tOrV, tNotV, tChain, tRet, tRetN, tNext, tDrop, tCall, tCons, tNil, tLst, tFld, sFld, scal_int, L2.start, List.map_cons, List.map_nil, List.length_cons, List.length_nil, List.replicate_succ, List.replicate_zero, List.cons_append, List.nil_append, List.append_nil, List.getElem?_cons_zero, List.getElem?_cons_succ, List.set_cons_zero, List.set_cons_succ, Option.some.injEq, V.int.injEq, V.bl.injEq, V.ref.injEq, HO.ins.injEq, HO.lst.injEq, List.cons.injEq, and_true, true_and, and_assoc, exists_and_left, exists_eq_left', exists_eq_left, exists_eq_right, Nat.reduceSub, Nat.zero_add, Nat.reduceAdd, Nat.reduceLT, decide_eq_true_eq, decide_true, decide_false, Bool.false_eq_true, if_true, if_false, ite_true, ite_false, nox_K, cxOf_K, wipe, tYes, hd, blk_K, cDecree.cl, cDecree.n_moment, cDecree.n_offset, cDecree.n_summer, lk_Decree_moment, lk_Decree_offset, lk_Decree_summer, pn_Decree_moment, pn_Decree_offset, pn_Decree_summer, pu_Decree_moment, pu_Decree_offset, pu_Decree_summer]
      have hL := h.2
      rw [take_one e, List.filter_append, refs, List.map_append, beq_int]
      by_cases hb : z.2.from_ = m
      · have b1 : (z.2.from_ == m) = true := beq_iff_eq.mpr hb
        have e1 : [z].filter (fun z => z.2.from_ != m) = [] := by simp [hb]
        rw [b1, e1, if_neg (by decide)]
        refine ⟨h.1, ?_⟩
        rw [List.map_nil, List.append_nil]
        exact hL
      · have b1 : (z.2.from_ == m) = false := beq_eq_false_iff_ne.mpr hb
        have e1 : [z].filter (fun z => z.2.from_ != m) = [z] := by simp [hb]
        rw [b1, e1, if_pos (by decide)]
        refine ⟨_, hL, len_line (n := 8) ?_, same_upd nL h.1, ?_⟩
        · rw [refs, List.length_map]
          rw [List.length_map] at h8
          exact Nat.le_trans (List.length_filter_le _ _) (Nat.le_trans (List.length_take_le' _ _) h8)
        · rw [upd_same]
          rfl
    · have h2 := h.2
      have h1p := h.1 _ _ hp
      rw [List.take_of_length_le (by rw [refs, List.length_map]; exact Nat.le_refl _)] at h2
      have nLp : L ≠ p := fun z => by
        rw [z, h1p] at h2
        cases h2
      refine ⟨cP, dx, _, h1p, cPlace.cl, cPlace.n_decrees, by show 1 < 1000; decide, q _ ⟨dx, L, zs.filter fun z => z.2.from_ != m, ?_, ?_, ?_, fun z hz' => ?_⟩ ((Same.but h.1).trans .upd)⟩
      · rw [upd_same, pu_Place_decrees]
      · rw [upd_ne nLp]
        exact h2
      · rw [List.filter_map]
        rfl
      · exact ((hz z (List.mem_filter.mp hz').1).same h.1).butT But.upd.t (loose_ins h1p (by show 1 ≤ 2; decide))
theorem ok_put_decree {c Tb : Addr} (T : Txt mg) (cDecree : IsDecree K mg cD) (cPlace : IsPlace K mg cP) (I_take_decree : Is P w K mg base 1 "take_decree" ["place", "moment"] (spTakeDecree cT cS cD cP)) (TB : LamX.TabB base mg c Tb)
    (D : DefC K mg "put_decree" s_put_decree ["place", "decree"] c) : Is P w K mg base 4 "put_decree" ["place", "decree"] (spPutDecree cT cS cD cP Tb) := by
  refine Is.byC D fun f fd F hcode => fun_okC F hcode sc_put_decree (fun vs H Q E h => ?_) (fun A outer s H vs Q E hr h => ?_)
  · obtain ⟨_, _, _, _, rfl, _⟩ := h
    rfl
  · obtain ⟨p, q, ds, d, rfl, hP, ok, hD, hT, hq⟩ := h
    have HCODE : (cxOf CX0 P w K mg base N_put_decree "put_decree" (defScope s_put_decree) f (.ref c) A outer s H E).nox.env.code = .ref c := rfl
    have HMT : (Tb, (cxOf CX0 P w K mg base N_put_decree "put_decree" (defScope s_put_decree) f (.ref c) A outer s H E).nox.env.qual ++ "<lambda>") ∈ [(Tb, lamName)] := List.mem_singleton.mpr rfl
    have HU : ∀ r ∈ [(Tb, lamName)], r.1 = Tb → r.2 = (cxOf CX0 P w K mg base N_put_decree "put_decree" (defScope s_put_decree) f (.ref c) A outer s H E).nox.env.qual ++ "<lambda>" := fun r hr _ => by
      rw [List.mem_singleton.mp hr]
      rfl
    refine ⟨_, (pss_cons (ps_expr (pe_is I_take_decree (hr.mono (by decide)) rfl (pa_cons (pv 0) (pa_cons (pe_fld (pv 1) rfl) pa_nil))))
    (pss_one (ps_fld (pv 0) (pe_sortLam rfl (hr.mono (by decide)) rfl T.n_sorted (pe_op op_cat (pe_fld (pv 0) rfl) (pe_lst (pa_cons (pv 1) pa_nil))) TB HCODE HMT HU ⟨rfl, rfl, rfl, rfl⟩ rfl (fun _ _ _ _ _ => rfl) (by decide)) rfl))), ?_⟩
    have hD0 := hD
    have hP0 := hP
    obtain ⟨dq, vq, hdq, hvq⟩ := hD
    simp only [tSeq, tAsg, tOp, tUn, tVar, tC, rI0, rI, rU, rEq, rNe, gName, tIfS, tTest, tB, tAnd, tOr, tNot, tAndV, tOrV, tNotV, tChain, tRet, tRetN, tNext, tDrop, tCall, tCons, tNil, tLst, tFld, sFld, scal_int, L2.start, List.map_cons, List.map_nil, List.length_cons, List.length_nil, List.replicate_succ, List.replicate_zero, List.cons_append, List.nil_append, List.append_nil, List.getElem?_cons_zero, List.getElem?_cons_succ, List.set_cons_zero, List.set_cons_succ, Option.some.injEq, V.int.injEq, V.bl.injEq, V.ref.injEq, HO.ins.injEq, HO.lst.injEq, List.cons.injEq, and_true, true_and, and_assoc, exists_and_left, exists_eq_left', exists_eq_left, exists_eq_right, Nat.reduceSub, Nat.zero_add, Nat.reduceAdd, Nat.reduceLT, decide_eq_true_eq, decide_true, decide_false, Bool.false_eq_true, if_true, if_false, ite_true, ite_false, nox_K, cxOf_K, hdq, cDecree.cl, cDecree.n_moment, cDecree.n_offset, cDecree.n_summer, lk_Decree_moment, lk_Decree_offset, lk_Decree_summer, pn_Decree_moment, pn_Decree_offset, pn_Decree_summer, pu_Decree_moment, pu_Decree_offset, pu_Decree_summer]
    refine ⟨p, ds, d.from_, rfl, hP, ok.few, fun H1 hP1 b1 => ?_⟩
    obtain ⟨dx, l, zs, hp, hl, ez, hz⟩ := hP1
    simp only [tSeq, tAsg, tOp, tUn, tVar, tC, rI0, rI, rU, rEq, rNe, gName, tIfS, tTest, tB, tAnd, tOr, tNot, tAndV, tOrV, tNotV, tChain, tRet, tRetN, tNext, tDrop, tCall, tCons, tNil, tLst, tFld, sFld, scal_int, L2.start, List.map_cons, List.map_nil, List.length_cons, List.length_nil, List.replicate_succ, List.replicate_zero, List.cons_append, List.nil_append, List.append_nil, List.getElem?_cons_zero, List.getElem?_cons_succ, List.set_cons_zero, List.set_cons_succ, Option.some.injEq, V.int.injEq, V.bl.injEq, V.ref.injEq, HO.ins.injEq, HO.lst.injEq, List.cons.injEq, and_true, true_and, and_assoc, exists_and_left, exists_eq_left', exists_eq_left, exists_eq_right, Nat.reduceSub, Nat.zero_add, Nat.reduceAdd, Nat.reduceLT, decide_eq_true_eq, decide_true, decide_false, Bool.false_eq_true, if_true, if_false, ite_true, ite_false, nox_K, cxOf_K, hp, tSortLam, rCat, cPlace.cl, cPlace.n_decrees, lk_Place_decrees, pn_Place_decrees, pu_Place_decrees]
    have ok8 := ok.few
    obtain ⟨dx0, l0, zs0, hp0, _, _, _⟩ := hP0
    have lo0 : Loose H p := loose_ins hp0 (by show 1 ≤ 2; decide)
    have lo1 : Loose H1 p := loose_ins hp (by show 1 ≤ 2; decide)
    have hD1 := hD0.butT b1.t lo0
    have zl : zs.length ≤ 8 := by
      have := congrArg List.length ez
      rw [List.length_map] at this
      have := List.length_filter_le (fun e : Decree => e.from_ != d.from_) ds
      omega
    have rl : (refs zs).length ≤ 8 := by
      rw [refs, List.length_map]
      exact zl
    refine ⟨by show 1 ≤ sizeLine; decide, fun a1 n1 => ⟨refs zs, by rw [upd_ne (ne_of_none hl n1)]; exact hl, [.ref q], upd_same, Nat.le_of_lt (len_line (l := refs zs ++ [V.ref q]) (n := 9) (by rw [List.length_append, List.length_singleton]; omega)) |> fun z => by rw [List.length_append] at z; exact z, fun a2 n2 => ?_⟩⟩
    obtain ⟨HB, hHB⟩ : ∃ HB, HB = upd (upd H1 a1 (.lst [.ref q])) a2 (.lst (refs zs ++ [.ref q])) := ⟨_, rfl⟩
    have sB : Same H1 HB := by
      rw [hHB]
      exact fun b o h => same_new n2 _ _ (same_new n1 _ _ h)
    have hB : HB a2 = some (.lst (refs (zs ++ [(q, d)]))) := by
      rw [hHB, upd_same, refs, refs, List.map_append]
      rfl
    rw [← hHB]
    have hz' : ∀ z ∈ zs ++ [(q, d)], DecAt cT cS cD HB z.1 z.2 := fun z hm => by
      rcases List.mem_append.mp hm with y | y
      · exact (hz z y).same sB
      · rw [List.mem_singleton.mp y]
        exact hD1.same sB
    have hTB : LamX.Tabs [(Tb, lamName)] HB := (tabs_but b1 (fun ps z => by
      rw [hp0] at z
      cases z) (fun c q z => by
      rw [hp0] at z
      unfold LamX.CodeO at z
      cases z) hT).ext sB
    refine ⟨refs (zs ++ [(q, d)]), .inl (.inl hB), ?_, keyOfV HB, fun y hy => ?_, hTB, fun H2 a3 eN T2 n3 => ?_⟩
    · rw [refs, List.length_map, List.length_append, List.length_singleton]
      omega
    · obtain ⟨z, hm, rfl⟩ := List.mem_map.mp hy
      have hk := keyOfV_dec (hz' z hm)
      obtain ⟨dz, vz, hdz, _⟩ := hz' z hm
      exact ⟨z.1, rfl, cD, dz, _, hdz, cDecree.cl, cDecree.n_moment, by rw [hk]; exact lk_Decree_moment⟩
    have em : (refs (zs ++ [(q, d)])).mergeSort (fun a b => decide (keyOfV HB a ≤ keyOfV HB b)) = refs ((zs ++ [(q, d)]).mergeSort fun a b => decide (a.2.from_ ≤ b.2.from_)) := by
      refine (List.map_mergeSort (f := fun z : Addr × Decree => V.ref z.1) fun a ha b hb => ?_).symm
      rw [keyOfV_dec (hz' a ha), keyOfV_dec (hz' b hb)]
      exact decide_eq_decide.mpr Int.ofNat_le.symm
    have ep : ((zs ++ [(q, d)]).mergeSort fun a b => decide (a.2.from_ ≤ b.2.from_)).map (·.2) = Cl02.put d ds := by
      rw [List.map_mergeSort (f := fun z : Addr × Decree => z.2) (s := fun a b => decide (a.from_ ≤ b.from_)) fun a ha b hb => rfl, List.map_append, ez]
      exact put_is d ok.srt
    rw [em]
    have h2p : H2 p = some (.ins cP dx [("decrees", .ref l)]) := eN _ _ (sB _ _ hp) fun _ z => by cases z
    have n3p : p ≠ a3 := ne_of_none h2p n3
    have h3p : upd H2 a3 (.lst (refs ((zs ++ [(q, d)]).mergeSort fun a b => decide (a.2.from_ ≤ b.2.from_)))) p = some (.ins cP dx [("decrees", .ref l)]) := by
      rw [upd_ne n3p]
      exact h2p
    refine ⟨cP, dx, _, h3p, cPlace.cl, cPlace.n_decrees, by show 1 < 1000; decide, ?_⟩
    rw [pu_Place_decrees]
    have bB : ButT p HB (upd (upd H2 a3 (.lst (refs ((zs ++ [(q, d)]).mergeSort fun a b => decide (a.2.from_ ≤ b.2.from_))))) p (.ins cP dx [("decrees", .ref a3)])) :=
      ((show ButT p HB H2 from fun b o _ h t => eN b o h t).trans (But.new n3).t).trans But.upd.t
    have loB : Loose HB p := loose_ins (sB _ _ hp) (by show 1 ≤ 2; decide)
    refine hq _ ⟨dx, a3, _, upd_same, ?_, ep, fun z hm => (hz' z (List.mem_mergeSort.mp hm)).butT bB loB⟩ ((b1.t.trans (Same.butT sB)).trans bB) (tabs_but But.upd (fun ps z => by
      rw [h3p] at z
      cases z) (fun c q z => by
      rw [h3p] at z
      unfold LamX.CodeO at z
      cases z) (T2.ext (same_new n3)))
    rw [upd_ne (Ne.symm n3p), upd_same]
theorem ok_decree_in_force (cDecree : IsDecree K mg cD) (cPlace : IsPlace K mg cP) (D : Def K mg "decree_in_force" s_decree_in_force ["place", "moment"]) : Is P w K mg base 1 "decree_in_force" ["place", "moment"] (spInForce cT cS cD cP) := by
  refine Is.by D fun f fd F => F.ok sc_decree_in_force (fun vs H Q E h => ?_) (fun cdv A outer s H vs Q E hr h => ?_)
  · obtain ⟨_, _, _, rfl, _⟩ := h
    rfl
  · obtain ⟨p, ds, u, rfl, ⟨dx, l, zs, hp, hl, rfl, hz⟩, ok, q⟩ := h
    refine ⟨_, (pss_cons (ps_set (i := 2) sc_decree_in_force.nd rfl (Or.inl rfl) (pe_ix ix_list (pe_fld (pv 0) rfl) pe_int (fun _ _ => rfl)))
    (pss_cons (ps_for PassesOwn.never rfl (pi_list (pe_fld (pv 0) rfl)) (pg_name (i := 3) sc_decree_in_force.nd rfl (Or.inl rfl)) (pss_one (ps_if (pt_cmpR op_le (pe_fld (pv 3) rfl) (pv 1) (nomark _)) (pss_one (ps_set (i := 2) sc_decree_in_force.nd rfl (Or.inl rfl) (pv 3))) pss_nil)))
    (pss_one (ps_ret (pv 2))))), ?_⟩
    simp only [tSeq, tAsg, tOp, tUn, tVar, tC, rI0, rI, rU, rEq, rNe, gName, tIfS, tTest, tB, tAnd, tOr, tNot, tAndV, tOrV, tNotV, tChain, tRet, tRetN, tNext, tDrop, tCall, tCons, tNil, tLst, tFld, sFld, scal_int, L2.start, List.map_cons, List.map_nil, List.length_cons, List.length_nil, List.replicate_succ, List.replicate_zero, List.cons_append, List.nil_append, List.append_nil, List.getElem?_cons_zero, List.getElem?_cons_succ, List.set_cons_zero, List.set_cons_succ, Option.some.injEq, V.int.injEq, V.bl.injEq, V.ref.injEq, HO.ins.injEq, HO.lst.injEq, List.cons.injEq, and_true, true_and, and_assoc, exists_and_left, exists_eq_left', exists_eq_left, exists_eq_right, Nat.reduceSub, Nat.zero_add, Nat.reduceAdd, Nat.reduceLT, decide_eq_true_eq, decide_true, decide_false, Bool.false_eq_true, if_true, if_false, ite_true, ite_false, nox_K, cxOf_K, iList, hp, cPlace.cl, cPlace.n_decrees, lk_Place_decrees, pn_Place_decrees, pu_Place_decrees]
    obtain ⟨d0, r, e0, f0⟩ := ok.first
    obtain ⟨z0, zr, rfl⟩ : ∃ z0 zr, zs = z0 :: zr := by
      cases zs with
      | nil => cases e0
      | cons z zr => exact ⟨_, _, rfl⟩
    obtain ⟨N, hN⟩ : ∃ N : Nat → L2.St → Hp → Prop, N = fun i σ H' => H' = H ∧ ∃ z v, z ∈ z0 :: zr ∧ z.2 = (((z0 :: zr).map (·.2)).take i).foldl (fun f d => if d.from_ ≤ u then d else f) z0.2 ∧ σ = [some (V.ref p), some (V.int u), some (V.ref z.1), v] := ⟨_, rfl⟩
    refine ixl (j := 0) (.inl (.inl hl)) rfl ⟨_, rfl, p, cP, dx, _, _, rfl, hp, cPlace.cl, cPlace.n_decrees, lk_Place_decrees, l, rfl, ⟨_, .inl (.inl hl)⟩, for_list (K := K) (a := l) (xs := refs (z0 :: zr)) N
      (by rw [hN]; exact ⟨rfl, z0, none, List.mem_cons_self .., rfl, rfl⟩) (fun i σ H' hi h => ?_) (fun i x σ H' hx h => ?_) (fun σ H' h => ?_)⟩
    · rw [hN] at h
      rw [h.1]
      exact .inl (.inl hl)
    · obtain ⟨z, e, mz, rfl⟩ := map_at hx
      rw [hN] at h
      obtain ⟨rfl, y, v, my, ey, rfl⟩ := h
      obtain ⟨dz, vz, hd, hv⟩ := hz z mz
      simp only [tSeq, tAsg, tOp, tUn, tVar, tC, rI0, rI, rU, rEq, rNe, gName, tIfS, tTest, tB, tAnd, tOr, tNot, tAndV, tOrV, tNotV, tChain, tRet, tRetN, tNext, tDrop, tCall, tCons, tNil, tLst, tFld, sFld, scal_int, L2.start, List.map_cons, List.map_nil, List.length_cons, List.length_nil, List.replicate_succ, List.replicate_zero, List.cons_append, List.nil_append, List.append_nil, List.getElem?_cons_zero, List.getElem?_cons_succ, List.set_cons_zero, List.set_cons_succ, Option.some.injEq, V.int.injEq, V.bl.injEq, V.ref.injEq, HO.ins.injEq, HO.lst.injEq, List.cons.injEq, and_true, true_and, and_assoc, exists_and_left, exists_eq_left', exists_eq_left, exists_eq_right, Nat.reduceSub, Nat.zero_add, Nat.reduceAdd, Nat.reduceLT, decide_eq_true_eq, decide_true, decide_false, Bool.false_eq_true, if_true, if_false, ite_true, ite_false, nox_K, cxOf_K, hd, cDecree.cl, cDecree.n_moment, cDecree.n_offset, cDecree.n_summer, lk_Decree_moment, lk_Decree_offset, lk_Decree_summer, pn_Decree_moment, pn_Decree_offset, pn_Decree_summer, pu_Decree_moment, pu_Decree_offset, pu_Decree_summer]
      have et : ((z0 :: zr).map (·.2)).take (i + 1) = ((z0 :: zr).map (·.2)).take i ++ [z.2] := take_one (by rw [List.getElem?_map, e]; rfl)
      by_cases hu : z.2.from_ ≤ u
      · rw [if_pos (Int.ofNat_le.mpr hu)]
        rw [hN]
        refine ⟨rfl, z, _, mz, ?_, rfl⟩
        rw [et, List.foldl_append, List.foldl_cons, List.foldl_nil, if_pos hu]
      · rw [if_neg fun q => hu (Int.ofNat_le.mp q)]
        rw [hN]
        refine ⟨rfl, y, _, my, ?_, rfl⟩
        rw [et, List.foldl_append, List.foldl_cons, List.foldl_nil, if_neg hu]
        exact ey
    · rw [hN] at h
      obtain ⟨rfl, y, v, my, ey, rfl⟩ := h
      simp only [tSeq, tAsg, tOp, tUn, tVar, tC, rI0, rI, rU, rEq, rNe, gName, tIfS, tTest, tB, tAnd, tOr, tNot, tAndV, tOrV, tNotV, tChain, tRet, tRetN, tNext, tDrop, tCall, tCons, tNil, tLst, tFld, sFld, scal_int, L2.start, List.map_cons, List.map_nil, List.length_cons, List.length_nil, List.replicate_succ, List.replicate_zero, List.cons_append, List.nil_append, List.append_nil, List.getElem?_cons_zero, List.getElem?_cons_succ, List.set_cons_zero, List.set_cons_succ, Option.some.injEq, V.int.injEq, V.bl.injEq, V.ref.injEq, HO.ins.injEq, HO.lst.injEq, List.cons.injEq, and_true, true_and, and_assoc, exists_and_left, exists_eq_left', exists_eq_left, exists_eq_right, Nat.reduceSub, Nat.zero_add, Nat.reduceAdd, Nat.reduceLT, decide_eq_true_eq, decide_true, decide_false, Bool.false_eq_true, if_true, if_false, ite_true, ite_false, nox_K, cxOf_K]
      rw [List.take_of_length_le (by rw [refs, List.length_map, List.length_map]; exact Nat.le_refl _)] at ey
      refine q _ ?_
      have e3 : Cl02.inForce ((z0 :: zr).map (·.2)) u = y.2 := by
        rw [ey, inForce_fold ok u, List.map_cons, List.foldl_cons, List.foldl_cons]
        have e1 : z0.2 = d0 := (List.cons.inj e0).1
        rw [if_pos (by rw [e1, f0]; exact Nat.zero_le _), if_pos (by rw [e1, f0]; exact Nat.zero_le _)]
      rw [e3]
      exact hz y my
theorem ok_ahead_at (I_decree_in_force : Is P w K mg base 1 "decree_in_force" ["place", "moment"] (spInForce cT cS cD cP)) (I_ahead_by : Is P w K mg base 6 "ahead_by" ["decree", "moment"] (spAheadBy cT cS cD)) (D : Def K mg "ahead_at" s_ahead_at ["place", "moment"]) : Is P w K mg base 7 "ahead_at" ["place", "moment"] (spAheadAt cT cS cD cP) := by
  refine Is.by D fun f fd F => F.ok sc_ahead_at (fun vs H Q E h => ?_) (fun cdv A outer s H vs Q E hr h => ?_)
  · obtain ⟨_, _, _, rfl, _⟩ := h
    rfl
  · obtain ⟨p, ds, u, rfl, hP, ok, q⟩ := h
    refine ⟨_, (pss_one (ps_ret (pe_is I_ahead_by (hr.mono (by decide)) rfl (pa_cons (pe_is I_decree_in_force (hr.mono (by decide)) rfl (pa_cons (pv 0) (pa_cons (pv 1) pa_nil))) (pa_cons (pv 1) pa_nil))))), ?_⟩
    simp only [tSeq, tAsg, tOp, tUn, tVar, tC, rI0, rI, rU, rEq, rNe, gName, tIfS, tTest, tB, tAnd, tOr, tNot, tAndV, tOrV, tNotV, tChain, tRet, tRetN, tNext, tDrop, tCall, tCons, tNil, tLst, tFld, sFld, scal_int, L2.start, List.map_cons, List.map_nil, List.length_cons, List.length_nil, List.replicate_succ, List.replicate_zero, List.cons_append, List.nil_append, List.append_nil, List.getElem?_cons_zero, List.getElem?_cons_succ, List.set_cons_zero, List.set_cons_succ, Option.some.injEq, V.int.injEq, V.bl.injEq, V.ref.injEq, HO.ins.injEq, HO.lst.injEq, List.cons.injEq, and_true, true_and, and_assoc, exists_and_left, exists_eq_left', exists_eq_left, exists_eq_right, Nat.reduceSub, Nat.zero_add, Nat.reduceAdd, Nat.reduceLT, decide_eq_true_eq, decide_true, decide_false, Bool.false_eq_true, if_true, if_false, ite_true, ite_false, nox_K, cxOf_K]
    refine ⟨p, ds, u, rfl, hP, ok, fun r hr => ?_⟩
    simp only [tSeq, tAsg, tOp, tUn, tVar, tC, rI0, rI, rU, rEq, rNe, gName, tIfS, tTest, tB, tAnd, tOr, tNot, tAndV, tOrV, tNotV, tChain, tRet, tRetN, tNext, tDrop, tCall, tCons, tNil, tLst, tFld, sFld, scal_int, L2.start, List.map_cons, List.map_nil, List.length_cons, List.length_nil, List.replicate_succ, List.replicate_zero, List.cons_append, List.nil_append, List.append_nil, List.getElem?_cons_zero, List.getElem?_cons_succ, List.set_cons_zero, List.set_cons_succ, Option.some.injEq, V.int.injEq, V.bl.injEq, V.ref.injEq, HO.ins.injEq, HO.lst.injEq, List.cons.injEq, and_true, true_and, and_assoc, exists_and_left, exists_eq_left', exists_eq_left, exists_eq_right, Nat.reduceSub, Nat.zero_add, Nat.reduceAdd, Nat.reduceLT, decide_eq_true_eq, decide_true, decide_false, Bool.false_eq_true, if_true, if_false, ite_true, ite_false, nox_K, cxOf_K]
    exact ⟨r, _, u, rfl, hr, inForce_ok ok u, q⟩
theorem ok_shown_at (I_ahead_at : Is P w K mg base 7 "ahead_at" ["place", "moment"] (spAheadAt cT cS cD cP)) (D : Def K mg "shown_at" s_shown_at ["place", "moment"]) : Is P w K mg base 8 "shown_at" ["place", "moment"] (spShownAt cT cS cD cP) := by
  refine Is.by D fun f fd F => F.ok sc_shown_at (fun vs H Q E h => ?_) (fun cdv A outer s H vs Q E hr h => ?_)
  · obtain ⟨_, _, _, rfl, _⟩ := h
    rfl
  · obtain ⟨p, ds, u, rfl, hP, ok, q⟩ := h
    refine ⟨_, (pss_one (ps_ret (pe_op op_add (pv 1) (pe_is I_ahead_at (hr.mono (by decide)) rfl (pa_cons (pv 0) (pa_cons (pv 1) pa_nil)))))), ?_⟩
    simp only [tSeq, tAsg, tOp, tUn, tVar, tC, rI0, rI, rU, rEq, rNe, gName, tIfS, tTest, tB, tAnd, tOr, tNot, tAndV, tOrV, tNotV, tChain, tRet, tRetN, tNext, tDrop, tCall, tCons, tNil, tLst, tFld, sFld, scal_int, L2.start, List.map_cons, List.map_nil, List.length_cons, List.length_nil, List.replicate_succ, List.replicate_zero, List.cons_append, List.nil_append, List.append_nil, List.getElem?_cons_zero, List.getElem?_cons_succ, List.set_cons_zero, List.set_cons_succ, Option.some.injEq, V.int.injEq, V.bl.injEq, V.ref.injEq, HO.ins.injEq, HO.lst.injEq, List.cons.injEq, and_true, true_and, and_assoc, exists_and_left, exists_eq_left', exists_eq_left, exists_eq_right, Nat.reduceSub, Nat.zero_add, Nat.reduceAdd, Nat.reduceLT, decide_eq_true_eq, decide_true, decide_false, Bool.false_eq_true, if_true, if_false, ite_true, ite_false, nox_K, cxOf_K]
    refine ⟨p, ds, u, rfl, hP, ok, ?_⟩
    simp only [tSeq, tAsg, tOp, tUn, tVar, tC, rI0, rI, rU, rEq, rNe, gName, tIfS, tTest, tB, tAnd, tOr, tNot, tAndV, tOrV, tNotV, tChain, tRet, tRetN, tNext, tDrop, tCall, tCons, tNil, tLst, tFld, sFld, scal_int, L2.start, List.map_cons, List.map_nil, List.length_cons, List.length_nil, List.replicate_succ, List.replicate_zero, List.cons_append, List.nil_append, List.append_nil, List.getElem?_cons_zero, List.getElem?_cons_succ, List.set_cons_zero, List.set_cons_succ, Option.some.injEq, V.int.injEq, V.bl.injEq, V.ref.injEq, HO.ins.injEq, HO.lst.injEq, List.cons.injEq, and_true, true_and, and_assoc, exists_and_left, exists_eq_left', exists_eq_left, exists_eq_right, Nat.reduceSub, Nat.zero_add, Nat.reduceAdd, Nat.reduceLT, decide_eq_true_eq, decide_true, decide_false, Bool.false_eq_true, if_true, if_false, ite_true, ite_false, nox_K, cxOf_K]
    exact q
theorem ok_moments_showing (T : Txt mg) (cDecree : IsDecree K mg cD) (cPlace : IsPlace K mg cP) (I_possible_aheads : Is P w K mg base 1 "possible_aheads" ["decree"] (spPossible cT cS cD)) (I_is_moment : Is P w K mg base 1 "is_moment" ["number"] spIsMoment)
    (I_shown_at : Is P w K mg base 8 "shown_at" ["place", "moment"] (spShownAt cT cS cD cP)) (D : Def K mg "moments_showing" s_moments_showing ["place", "shown"]) : Is P w K mg base 9 "moments_showing" ["place", "shown"] (spMoments cT cS cD cP) := by
  refine Is.by D fun f fd F => F.ok sc_moments_showing (fun vs H Q E h => ?_) (fun cdv A outer s H vs Q E hr h => ?_)
  · obtain ⟨_, _, _, rfl, _⟩ := h
    rfl
  · obtain ⟨p, ds, u, rfl, hP, ok, q⟩ := h
    have hP0 := hP
    obtain ⟨dx, l, zs, hp, hl, rfl, hz⟩ := hP
    refine ⟨_, (pss_cons (ps_set (i := 2) sc_moments_showing.nd rfl (Or.inl rfl) (pe_lst pa_nil))
    (pss_cons (ps_for PassesOwn.never rfl (pi_list (pe_fld (pv 0) rfl)) (pg_name (i := 3) sc_moments_showing.nd rfl (Or.inl rfl)) (pss_one (ps_for PassesOwn.never rfl (pi_list (pe_is I_possible_aheads (hr.mono (by decide)) rfl (pa_cons (pv 3) pa_nil))) (pg_name (i := 4) sc_moments_showing.nd rfl (Or.inl rfl)) (pss_one (ps_expr (pe_bm PySem.F.plainAttrs_list PySem.F.slot_list_append PySem.F.type_list_append mt_append (pv 2) (pa_cons (pe_op op_sub (pv 1) (pv 4)) pa_nil)))))))
    (pss_one (ps_ret (pe_lc (te := (tVar 5)) (own := [("moment", 5)]) (g := gName 5) rfl sc_moments_showing.nd (pi_list (pe_callB (cr_sortedSet rfl) (by rfl) T.n_sorted (by decide +kernel) (pa_cons (pe_callTy (cr_setL rfl) (by rfl) T.n_set (by decide +kernel) (pa_cons (pv 2) pa_nil)) pa_nil))) (blkOk_by (N := N_moments_showing) (sc := defScope s_moments_showing) (by decide +kernel)) (fun _ _ _ _ _ => pg_name (i := 5) sc_moments_showing.nd rfl (Or.inl rfl)) (fun _ _ _ _ _ => by exact (pts_one (PW.pt (pw_and (pt_val (pe_is I_is_moment (hr.mono (by decide)) rfl (pa_cons (pv 5) pa_nil))) (pw_and1 (pt_cmpR op_eq (pe_is I_shown_at (hr.mono (by decide)) rfl (pa_cons (pv 0) (pa_cons (pv 5) pa_nil))) (pv 1) (nomark _))))))) (fun _ _ _ _ _ => by exact (pv 5))))))), ?_⟩
    simp only [tSeq, tAsg, tOp, tUn, tVar, tC, rI0, rI, rU, rEq, rNe, gName, tIfS, tTest, tB, tAnd, tOr, tNot, tAndV, tOrV, tNotV, tChain, tRet, tRetN, tNext, tDrop, tCall, tCons, tNil, tLst, tFld, sFld, scal_int, L2.start, List.map_cons, List.map_nil, List.length_cons, List.length_nil, List.replicate_succ, List.replicate_zero, List.cons_append, List.nil_append, List.append_nil, List.getElem?_cons_zero, List.getElem?_cons_succ, List.set_cons_zero, List.set_cons_succ, Option.some.injEq, V.int.injEq, V.bl.injEq, V.ref.injEq, HO.ins.injEq, HO.lst.injEq, List.cons.injEq, and_true, true_and, and_assoc, exists_and_left, exists_eq_left', exists_eq_left, exists_eq_right, Nat.reduceSub, Nat.zero_add, Nat.reduceAdd, Nat.reduceLT, decide_eq_true_eq, decide_true, decide_false, Bool.false_eq_true, if_true, if_false, ite_true, ite_false, nox_K, cxOf_K, iList, hp, cxOf_w, nox_w, cPlace.cl, cPlace.n_decrees, lk_Place_decrees, pn_Place_decrees, pu_Place_decrees]
    refine ⟨Nat.zero_le _, fun T0 nT => ?_⟩
    have nTl : l ≠ T0 := ne_of_none hl nT
    have nTp : p ≠ T0 := ne_of_none hp nT
    obtain ⟨tr, htr⟩ : ∃ tr : List (Addr × Decree) → List Int, tr = fun zs => zs.flatMap fun z => (aheads z.2).map fun a => u - a := ⟨_, rfl⟩
    obtain ⟨N, hN⟩ : ∃ N : Nat → L2.St → Hp → Prop, N = fun i σ H' => Same H H' ∧ H' T0 = some (.lst ((tr (zs.take i)).map V.int)) ∧ ∃ v3 v4, σ = [some (V.ref p), some (V.int u), some (V.ref T0), v3, v4, none] := ⟨_, rfl⟩
    refine ⟨_, rfl, p, cP, dx, _, _, rfl, by rw [upd_ne nTp]; exact hp, cPlace.cl, cPlace.n_decrees, lk_Place_decrees, l, rfl, ⟨_, .inl (.inl (by rw [upd_ne nTl]; exact hl))⟩, for_list (K := K) (a := l) (xs := refs zs) N
      (by rw [hN]; exact ⟨same_new nT, by rw [upd_same, htr]; rfl, none, none, rfl⟩) (fun i σ H' hi h => ?_) (fun i x σ H' hx h => ?_) (fun σ H' h => ?_)⟩
    · rw [hN] at h
      exact .inl (.inl (h.1 _ _ hl))
    · obtain ⟨z, e, mz, rfl⟩ := map_at hx
      rw [hN] at h
      obtain ⟨s1, hT, v3, v4, rfl⟩ := h
      have tl : (tr (zs.take i)).length ≤ 16 := by
        have h1 : (tr (zs.take i)).length ≤ 2 * (zs.take i).length := by
          rw [htr]
          exact tr_len u _
        have h2 : (zs.take i).length ≤ zs.length := List.length_take_le' _ _
        have h3 := ok.few
        rw [List.length_map] at h3
        omega
      obtain ⟨M, hM⟩ : ∃ M : Nat → L2.St → Hp → Prop, M = fun j σ H2 => Same H H2 ∧ H2 T0 = some (.lst ((tr (zs.take i) ++ ((aheads z.2).map fun a => u - a).take j).map V.int)) ∧ ∃ v4, σ = [some (V.ref p), some (V.int u), some (V.ref T0), some (V.ref z.1), v4, none] := ⟨_, rfl⟩
      refine ⟨_, rfl, z.1, z.2, rfl, (hz z mz).same s1, fun r nr => ⟨r, rfl, ⟨_, .inl (.inl upd_same)⟩, for_list (K := K) (a := r) (xs := (aheads z.2).map V.int) (fun j σ H2 => H2 r = some (.lst ((aheads z.2).map V.int)) ∧ M j σ H2)
        ⟨upd_same, by rw [hM]; exact ⟨fun b o hb => same_new nr _ _ (s1 _ _ hb), by rw [upd_ne (ne_of_none hT nr), List.take_zero, List.append_nil]; exact hT, v4, rfl⟩⟩ (fun j σ H2 hj h => .inl (.inl h.1)) (fun j x σ H2 hx h => ?_) (fun σ H2 h => ?_)⟩⟩
      · obtain ⟨y, ey, my, rfl⟩ := map_at hx
        rw [hM] at h
        obtain ⟨hr2, s2, hT2, w4, rfl⟩ := h
        simp only [tSeq, tAsg, tOp, tUn, tVar, tC, rI0, rI, rU, rEq, rNe, gName, tIfS, tTest, tB, tAnd, tOr, tNot, tAndV, tOrV, tNotV, tChain, tRet, tRetN, tNext, tDrop, tCall, tCons, tNil, tLst, tFld, sFld, scal_int, L2.start, List.map_cons, List.map_nil, List.length_cons, List.length_nil, List.replicate_succ, List.replicate_zero, List.cons_append, List.nil_append, List.append_nil, List.getElem?_cons_zero, List.getElem?_cons_succ, List.set_cons_zero, List.set_cons_succ, Option.some.injEq, V.int.injEq, V.bl.injEq, V.ref.injEq, HO.ins.injEq, HO.lst.injEq, List.cons.injEq, and_true, true_and, and_assoc, exists_and_left, exists_eq_left', exists_eq_left, exists_eq_right, Nat.reduceSub, Nat.zero_add, Nat.reduceAdd, Nat.reduceLT, decide_eq_true_eq, decide_true, decide_false, Bool.false_eq_true, if_true, if_false, ite_true, ite_false, nox_K, cxOf_K, tBM, rAppend]
        have rT : r ≠ T0 := (ne_of_none hT nr).symm
        have al : (aheads z.2).length ≤ 2 := aheads_len z.2
        refine ⟨.inl ⟨rfl, _, .inl (.inl hT2)⟩, _, hT2, len_line (n := 18) ?_, ?_⟩
        · rw [List.length_map, List.length_append]
          have h4 : (((aheads z.2).map fun a => u - a).take j).length ≤ ((aheads z.2).map fun a => u - a).length := List.length_take_le' _ _
          rw [List.length_map] at h4
          omega
        · rw [hM]
          refine ⟨by rw [upd_ne rT]; exact hr2, same_upd nT s2, ?_, _, rfl⟩
          rw [upd_same, take_one (x := u - y) (by rw [List.getElem?_map, ey]; rfl), ← List.append_assoc, List.map_append (l₂ := [u - y])]
          rfl
      · rw [hM] at h
        obtain ⟨hr2, s2, hT2, w4, rfl⟩ := h
        rw [hN]
        refine ⟨s2, ?_, _, _, rfl⟩
        rw [hT2, List.take_of_length_le (l := (aheads z.2).map fun a => u - a) (by rw [List.length_map, List.length_map]; exact Nat.le_refl _), take_one e, htr]
        show some (HO.lst (List.map V.int (List.flatMap (fun z => (aheads z.2).map fun a => u - a) (zs.take i) ++ _))) = some (HO.lst (List.map V.int (List.flatMap (fun z => (aheads z.2).map fun a => u - a) (zs.take i ++ [z]))))
        rw [List.flatMap_append, List.flatMap_singleton]
    · rw [hN] at h
      obtain ⟨s1, hT, v3, v4, rfl⟩ := h
      simp only [tSeq, tAsg, tOp, tUn, tVar, tC, rI0, rI, rU, rEq, rNe, gName, tIfS, tTest, tB, tAnd, tOr, tNot, tAndV, tOrV, tNotV, tChain, tRet, tRetN, tNext, tDrop, tCall, tCons, tNil, tLst, tFld, sFld, scal_int, L2.start, List.map_cons, List.map_nil, List.length_cons, List.length_nil, List.replicate_succ, List.replicate_zero, List.cons_append, List.nil_append, List.append_nil, List.getElem?_cons_zero, List.getElem?_cons_succ, List.set_cons_zero, List.set_cons_succ, Option.some.injEq, V.int.injEq, V.bl.injEq, V.ref.injEq, HO.ins.injEq, HO.lst.injEq, List.cons.injEq, and_true, true_and, and_assoc, exists_and_left, exists_eq_left', exists_eq_left, exists_eq_right, Nat.reduceSub, Nat.zero_add, Nat.reduceAdd, Nat.reduceLT, decide_eq_true_eq, decide_true, decide_false, Bool.false_eq_true, if_true, if_false, ite_true, ite_false, nox_K, cxOf_K]
      rw [List.take_of_length_le (by rw [refs, List.length_map]; exact Nat.le_refl _)] at hT
      have tl : (tr zs).length ≤ 16 := by
        have h1 : (tr zs).length ≤ 2 * zs.length := by
          rw [htr]
          exact tr_len u _
        have h3 := ok.few
        rw [List.length_map] at h3
        omega
      obtain ⟨fm, hfm⟩ : ∃ fm : Int → Option Nat, fm = fun k => if (0 ≤ k ∧ k < 52596000) ∧ Cl02.shown (zs.map (·.2)) k.toNat = u then some k.toNat else none := ⟨_, rfl⟩
      refine ⟨_, rfl, T0, tr zs, rfl, .inl (.inl hT), by omega, fun a n na hn => ⟨a, _, n, rfl, upd_same, by omega, fun ms r hs hm hlen nr => ⟨r, rfl, ⟨_, .inl (.inl upd_same)⟩, fun L nL => ?_⟩⟩⟩
      have ml : ms.length ≤ 16 := by omega
      obtain ⟨HB, hHB⟩ : ∃ HB, HB = upd (upd H' a (SetO w a (fun j => decide (j ∈ tr zs)) n)) r (.lst (ms.map V.int)) := ⟨_, rfl⟩
      have sB : Same H HB := by
        rw [hHB]
        exact fun b o h => same_new nr _ _ (same_new na _ _ (s1 _ _ h))
      have hBr : HB r = some (.lst (ms.map V.int)) := by
        rw [hHB, upd_same]
      have nL' : HB L = none := by
        rw [hHB]
        exact nL
      have ee : upd (upd (upd H' a (SetO w a (fun j => decide (j ∈ tr zs)) n)) r (.lst (ms.map V.int))) L (.lst []) = upd HB L (.lst []) := by rw [hHB]
      obtain ⟨M, hM⟩ : ∃ M : Nat → Hp → Prop, M = fun j H2 => Same HB H2 ∧ H2 L = some (.lst (natV ((ms.take j).filterMap fm))) := ⟨_, rfl⟩
      rw [← hHB]
      refine lc_list (K := K) (a := r) (xs := ms.map V.int) M (by rw [hM]; exact ⟨same_new nL', by rw [upd_same]; rfl⟩) (fun j H2 hj h => ?_) (fun j x H2 hx h => ?_) (fun H2 h => ?_)
      · rw [hM] at h
        exact .inl (.inl (h.1 _ _ hBr))
      · obtain ⟨k, ek, mk, rfl⟩ := map_at hx
        rw [hM] at h
        obtain ⟨s2, hL⟩ := h
        simp only [tSeq, tAsg, tOp, tUn, tVar, tC, rI0, rI, rU, rEq, rNe, gName, tIfS, tTest, tB, tAnd, tOr, tNot, tAndV, tOrV, tNotV, tChain, tRet, tRetN, tNext, tDrop, tCall, tCons, tNil, tLst, tFld, sFld, scal_int, L2.start, List.map_cons, List.map_nil, List.length_cons, List.length_nil, List.replicate_succ, List.replicate_zero, List.cons_append, List.nil_append, List.append_nil, List.getElem?_cons_zero, List.getElem?_cons_succ, List.set_cons_zero, List.set_cons_succ, Option.some.injEq, V.int.injEq, V.bl.injEq, V.ref.injEq, HO.ins.injEq, HO.lst.injEq, List.cons.injEq, and_true, true_and, and_assoc, exists_and_left, exists_eq_left', exists_eq_left, exists_eq_right, Nat.reduceSub, Nat.zero_add, Nat.reduceAdd, Nat.reduceLT, decide_eq_true_eq, decide_true, decide_false, Bool.false_eq_true, if_true, if_false, ite_true, ite_false, nox_K, cxOf_K, wipe, blk_K]
        have et : (ms.take (j + 1)).filterMap fm = (ms.take j).filterMap fm ++ (fm k).toList := by
          rw [take_one ek, List.filterMap_append]
          rfl
        have skip : fm k = none → M (j + 1) H2 := fun e => by
          rw [hM]
          refine ⟨s2, ?_⟩
          rw [et, e, hL, Option.toList_none, List.append_nil]
        refine ⟨k, rfl, _, rfl, ?_⟩
        by_cases hk : 0 ≤ k ∧ k < 52596000
        · rw [decide_eq_true hk, if_pos rfl]
          have hkn : ((k.toNat : Nat) : Int) = k := by omega
          refine ⟨p, zs.map (·.2), k.toNat, by rw [hkn], hP0.same (fun b o h => s2 _ _ (sB _ _ h)), ok, rfl, ?_⟩
          by_cases hsh : Cl02.shown (zs.map (·.2)) k.toNat = u
          · rw [if_pos (by rw [hsh])]
            have e : fm k = some k.toNat := by
              rw [hfm]
              exact if_pos ⟨hk, hsh⟩
            refine ⟨_, hL, len_line (n := 16) ?_, ?_⟩
            · rw [List.length_map]
              exact Nat.le_trans (List.length_filterMap_le _ _) (Nat.le_trans (List.length_take_le' _ _) ml)
            · rw [hM]
              refine ⟨same_upd nL' s2, ?_⟩
              rw [upd_same, et, e]
              show _ = some (HO.lst (List.map (fun (n : Nat) => V.int n) (_ ++ [k.toNat])))
              rw [List.map_append, List.map_cons, hkn]
              rfl
          · rw [if_neg fun z => hsh (V.int.inj z)]
            refine skip ?_
            rw [hfm]
            exact if_neg fun z => hsh z.2
        · rw [decide_eq_false hk, if_neg Bool.false_ne_true]
          refine skip ?_
          rw [hfm]
          exact if_neg fun z => hk z.1
      · rw [hM] at h
        obtain ⟨s2, hL⟩ := h
        rw [List.take_of_length_le (by rw [List.length_map]; exact Nat.le_refl _)] at hL
        refine q H2 L (fun b o h => s2 _ _ (sB _ _ h)) ?_
        rw [hL]
        have em : Cl02.momentsOf (zs.map (·.2)) u = ms.filterMap fm := by
          refine momentsOf_eq ok u (List.Pairwise.filterMap fm (fun x y hxy b hb b' hb' => ?_) hs) fun t => ?_
          · rw [hfm] at hb hb'
            simp only [Option.ite_none_right_eq_some, Option.some.injEq] at hb hb'
            omega
          · rw [List.mem_filterMap]
            constructor
            · rintro ⟨k, hk, e⟩
              rw [hfm] at e
              simp only [Option.ite_none_right_eq_some, Option.some.injEq] at e
              obtain ⟨⟨c1, c2⟩, rfl⟩ := e
              exact ⟨by omega, c2⟩
            · rintro ⟨t1, t2⟩
              refine ⟨t, (hm t).mpr (decide_eq_true ?_), ?_⟩
              · obtain ⟨d, md, ha⟩ := mem_aheads (mem_offsets ok t)
                obtain ⟨z, mz, rfl⟩ := List.mem_map.mp md
                rw [htr]
                refine List.mem_flatMap.mpr ⟨z, mz, List.mem_map.mpr ⟨_, ha, ?_⟩⟩
                rw [← t2]
                unfold Cl02.shown
                omega
              · rw [hfm]
                exact if_pos ⟨⟨by omega, by omega⟩, t2⟩
        rw [em]
end
end Pc
namespace Pc
open PySem PySem.Spec PyProof.Rows L2 PcR PcM
open Cl02 (Turn Decree)
/-! ### the next change, what is meant -/
def spChangesAt (cT cS cD cP : Addr) : Sp := fun vs H Q _ => ∃ (p : Addr) (ds : List Decree) (u : Nat), vs = [.ref p, .int u] ∧ PlaceAt cT cS cD cP H p ds ∧ OkP ds ∧ 1 ≤ u ∧ Q (.bl (!decide (Cl02.offsetAt ds u = Cl02.offsetAt ds (u - 1)))) H
def spNextChange (cT cS cD cP : Addr) : Sp := fun vs H Q _ => ∃ (p : Addr) (ds : List Decree) (u : Nat), vs = [.ref p, .int u] ∧ PlaceAt cT cS cD cP H p ds ∧ OkP ds ∧
  (∀ (H' : Hp) (t : Nat), Same H H' → Least (Change ds u) t → Q (.int t) H') ∧ ∀ H' : Hp, Same H H' → (∀ t, ¬ Change ds u t) → Q .non H'
def spFirstMore (cT cS cD cP : Addr) : Sp := fun vs H Q _ => ∃ (p : Addr) (ds : List Decree) (l : Int), vs = [.ref p, .int l] ∧ PlaceAt cT cS cD cP H p ds ∧ OkP ds ∧ (∀ t, t < 52596000 → Cl02.shown ds t ≠ l) ∧
  (∀ (H' : Hp) (t : Nat), Same H H' → Least (fun t => t < 52596000 ∧ l < Cl02.shown ds t) t → Q (.int t) H') ∧ ∀ H' : Hp, Same H H' → (∀ t, t < 52596000 → Cl02.shown ds t < l) → Q .non H'
def spMeant (cT cS cD cP : Addr) : Sp := fun vs H Q _ => ∃ (p : Addr) (ds : List Decree) (l : Int), vs = [.ref p, .int l] ∧ PlaceAt cT cS cD cP H p ds ∧ OkP ds ∧
  (∀ (H' : Hp) (t : Nat) (b : Bool), Same H H' → Cl02.meant ds l = some (t, b) → decide (Cl02.shown ds t = l) = b → Q (.int t) H') ∧ ∀ H' : Hp, Same H H' → Cl02.meant ds l = none → Q .non H'
abbrev s_changes_at : Stmt := topS 42
abbrev N_changes_at : List Str := ["place", "moment"]
theorem sc_changes_at : FnScope ["place", "moment"] ["place", "moment"] (defScope s_changes_at) := ⟨rfl, rfl, rfl, by decide +kernel, rfl, by decide +kernel, by decide +kernel⟩
abbrev s_next_change : Stmt := topS 43
abbrev N_next_change : List Str := ["place", "moment", "tried", "decree", "behind", "each"]
theorem sc_next_change : FnScope ["place", "moment", "tried", "decree", "behind", "each"] ["place", "moment"] (defScope s_next_change) := ⟨rfl, rfl, rfl, by decide +kernel, rfl, by decide +kernel, by decide +kernel⟩
abbrev s_first_showing_more : Stmt := topS 44
abbrev N_first_showing_more : List Str := ["place", "shown", "moment"]
theorem sc_first_showing_more : FnScope ["place", "shown", "moment"] ["place", "shown"] (defScope s_first_showing_more) := ⟨rfl, rfl, rfl, by decide +kernel, rfl, by decide +kernel, by decide +kernel⟩
abbrev s_moment_meant : Stmt := topS 45
abbrev N_moment_meant : List Str := ["place", "shown", "moments"]
theorem sc_moment_meant : FnScope ["place", "shown", "moments"] ["place", "shown"] (defScope s_moment_meant) := ⟨rfl, rfl, rfl, by decide +kernel, rfl, by decide +kernel, by decide +kernel⟩
section
variable {P : Program} {w : World} {K : PySem.W.Frag} {mg : Str → Option Value} {base : Heap} {cT cS cD cP : Addr}
theorem ok_changes_at (I_ahead_at : Is P w K mg base 7 "ahead_at" ["place", "moment"] (spAheadAt cT cS cD cP)) (D : Def K mg "changes_at" s_changes_at ["place", "moment"]) : Is P w K mg base 8 "changes_at" ["place", "moment"] (spChangesAt cT cS cD cP) := by
  refine Is.by D fun f fd F => F.ok sc_changes_at (fun vs H Q E h => ?_) (fun cdv A outer s H vs Q E hr h => ?_)
  · obtain ⟨_, _, _, rfl, _⟩ := h
    rfl
  · obtain ⟨p, ds, u, rfl, hP, ok, u1, q⟩ := h
    refine ⟨_, (pss_one (ps_ret (pe_cmpR op_ne (pe_is I_ahead_at (hr.mono (by decide)) rfl (pa_cons (pv 0) (pa_cons (pv 1) pa_nil))) (pe_is I_ahead_at (hr.mono (by decide)) rfl (pa_cons (pv 0) (pa_cons (pe_op op_sub (pv 1) pe_int) pa_nil))) (nomark _)))), ?_⟩
    simp only [tSeq, tAsg, tOp, tUn, tVar, tC, rI0, rI, rU, rEq, rNe, gName, tIfS, tTest, tB, tAnd, tOr, tNot, tAndV, tOrV, tNotV, tChain, tRet, tRetN, tNext, tDrop, tCall, tCons, tNil, tLst, tFld, sFld, scal_int, L2.start, List.map_cons, List.map_nil, List.length_cons, List.length_nil, List.replicate_succ, List.replicate_zero, List.cons_append, List.nil_append, List.append_nil, List.getElem?_cons_zero, List.getElem?_cons_succ, List.set_cons_zero, List.set_cons_succ, Option.some.injEq, V.int.injEq, V.bl.injEq, V.ref.injEq, HO.ins.injEq, HO.lst.injEq, List.cons.injEq, and_true, true_and, and_assoc, exists_and_left, exists_eq_left', exists_eq_left, exists_eq_right, Nat.reduceSub, Nat.zero_add, Nat.reduceAdd, Nat.reduceLT, decide_eq_true_eq, decide_true, decide_false, Bool.false_eq_true, if_true, if_false, ite_true, ite_false, nox_K, cxOf_K]
    refine ⟨p, ds, u, rfl, hP, ok, p, ds, u - 1, by rw [show (u : Int) - 1 = ((u - 1 : Nat) : Int) by omega], hP, ok, ?_⟩
    simp only [tSeq, tAsg, tOp, tUn, tVar, tC, rI0, rI, rU, rEq, rNe, gName, tIfS, tTest, tB, tAnd, tOr, tNot, tAndV, tOrV, tNotV, tChain, tRet, tRetN, tNext, tDrop, tCall, tCons, tNil, tLst, tFld, sFld, scal_int, L2.start, List.map_cons, List.map_nil, List.length_cons, List.length_nil, List.replicate_succ, List.replicate_zero, List.cons_append, List.nil_append, List.append_nil, List.getElem?_cons_zero, List.getElem?_cons_succ, List.set_cons_zero, List.set_cons_succ, Option.some.injEq, V.int.injEq, V.bl.injEq, V.ref.injEq, HO.ins.injEq, HO.lst.injEq, List.cons.injEq, and_true, true_and, and_assoc, exists_and_left, exists_eq_left', exists_eq_left, exists_eq_right, Nat.reduceSub, Nat.zero_add, Nat.reduceAdd, Nat.reduceLT, decide_eq_true_eq, decide_true, decide_false, Bool.false_eq_true, if_true, if_false, ite_true, ite_false, nox_K, cxOf_K]
    exact q
theorem ok_next_change (T : Txt mg) (cDecree : IsDecree K mg cD) (cPlace : IsPlace K mg cP) (I_is_moment : Is P w K mg base 1 "is_moment" ["number"] spIsMoment) (I_next_turn : Is P w K mg base 5 "next_turn" ["summer", "moment"] (spNextTurn cT cS))
    (I_changes_at : Is P w K mg base 8 "changes_at" ["place", "moment"] (spChangesAt cT cS cD cP)) (D : Def K mg "next_change" s_next_change ["place", "moment"]) : Is P w K mg base 9 "next_change" ["place", "moment"] (spNextChange cT cS cD cP) := by
  refine Is.by D fun f fd F => F.ok sc_next_change (fun vs H Q E h => ?_) (fun cdv A outer s H vs Q E hr h => ?_)
  · obtain ⟨_, _, _, rfl, _⟩ := h
    rfl
  · obtain ⟨p, ds, u, rfl, hP, ok, q1, q2⟩ := h
    have hP0 := hP
    obtain ⟨dx, l, zs, hp, hl, rfl, hz⟩ := hP
    refine ⟨_, (pss_cons (ps_set (i := 2) sc_next_change.nd rfl (Or.inl rfl) (pe_lst pa_nil))
    (pss_cons (ps_for PassesOwn.never rfl (pi_list (pe_fld (pv 0) rfl)) (pg_name (i := 3) sc_next_change.nd rfl (Or.inl rfl)) (pss_cons (ps_expr (pe_bm PySem.F.plainAttrs_list PySem.F.slot_list_append PySem.F.type_list_append mt_append (pv 2) (pa_cons (pe_fld (pv 3) rfl) pa_nil)))
    (pss_one (ps_if (pt_cmpR op_notN (pe_fld (pv 3) rfl) pe_non (nomark _)) (pss_one (ps_expr (pe_bm PySem.F.plainAttrs_list PySem.F.slot_list_append PySem.F.type_list_append mt_append (pv 2) (pa_cons (pe_is I_next_turn (hr.mono (by decide)) rfl (pa_cons (pe_fld (pv 3) rfl) (pa_cons (pe_callB (call_max2 rfl) (by rfl) T.n_max (by decide +kernel) (pa_cons (pv 1) (pa_cons (pe_fld (pv 3) rfl) pa_nil))) pa_nil))) pa_nil)))) pss_nil))))
    (pss_cons (ps_setLc (i := 4) (te := (tVar 5)) (own := [("each", 5)]) (g := gName 5) rfl sc_next_change.nd rfl rfl (sw_true rfl rfl rfl (by decide +kernel)) (pi_list (pv 2)) (blkOk_by (N := N_next_change) (sc := defScope s_next_change) (by decide +kernel)) (fun _ _ _ _ _ => pg_name (i := 5) sc_next_change.nd rfl (Or.inl rfl)) (fun _ _ _ _ _ => by exact (pts_one (PW.pt (pw_and (pt_cmpR op_gt (pv 5) (pv 1) (nomark _)) (pw_and1 (pt_val (pe_is I_is_moment (hr.mono (by decide)) rfl (pa_cons (pv 5) pa_nil)))))))) (fun _ _ _ _ _ => by exact (pv 5)))
    (pss_one (ps_ret (pe_minD rfl hr (by rfl) T.n_min (pe_lc (te := (tVar 5)) (own := [("each", 5)]) (g := gName 5) rfl sc_next_change.nd (pi_list (pv 4)) (blkOk_by (N := N_next_change) (sc := defScope s_next_change) (by decide +kernel)) (fun _ _ _ _ _ => pg_name (i := 5) sc_next_change.nd rfl (Or.inl rfl)) (fun _ _ _ _ _ => by exact (pts_one (pt_val (pe_is I_changes_at (hr.mono (by decide)) rfl (pa_cons (pv 0) (pa_cons (pv 5) pa_nil)))))) (fun _ _ _ _ _ => by exact (pv 5))))))))), ?_⟩
    simp only [tSeq, tAsg, tOp, tUn, tVar, tC, rI0, rI, rU, rEq, rNe, gName, tIfS, tTest, tB, tAnd, tOr, tNot, tAndV, tOrV, tNotV, tChain, tRet, tRetN, tNext, tDrop, tCall, tCons, tNil, tLst, tFld, sFld, scal_int, L2.start, List.map_cons, List.map_nil, List.length_cons, List.length_nil, List.replicate_succ, List.replicate_zero, List.cons_append, List.nil_append, List.append_nil, List.getElem?_cons_zero, List.getElem?_cons_succ, List.set_cons_zero, List.set_cons_succ, Option.some.injEq, V.int.injEq, V.bl.injEq, V.ref.injEq, HO.ins.injEq, HO.lst.injEq, List.cons.injEq, and_true, true_and, and_assoc, exists_and_left, exists_eq_left', exists_eq_left, exists_eq_right, Nat.reduceSub, Nat.zero_add, Nat.reduceAdd, Nat.reduceLT, decide_eq_true_eq, decide_true, decide_false, Bool.false_eq_true, if_true, if_false, ite_true, ite_false, nox_K, cxOf_K, iList, hp, cPlace.cl, cPlace.n_decrees, lk_Place_decrees, pn_Place_decrees, pu_Place_decrees]
    refine ⟨Nat.zero_le _, fun T0 nT => ?_⟩
    have nTl : l ≠ T0 := ne_of_none hl nT
    have nTp : p ≠ T0 := ne_of_none hp nT
    obtain ⟨N, hN⟩ : ∃ N : Nat → L2.St → Hp → Prop, N = fun i σ H' => Same H H' ∧ (∃ ts : List Nat, H' T0 = some (.lst (natV ts)) ∧ ts.length ≤ 2 * i ∧ ∀ z ∈ zs.take i, z.2.from_ ∈ ts ∧ ∀ x a b, z.2.summer = some (x, a, b) → ∀ t, Least (fun t => max u z.2.from_ < t ∧ TurnM a b t) t → t ∈ ts) ∧
      ∃ v3, σ = [some (V.ref p), some (V.int u), some (V.ref T0), v3, none, none] := ⟨_, rfl⟩
    refine ⟨_, rfl, p, cP, dx, _, _, rfl, by rw [upd_ne nTp]; exact hp, cPlace.cl, cPlace.n_decrees, lk_Place_decrees, l, rfl, ⟨_, .inl (.inl (by rw [upd_ne nTl]; exact hl))⟩, for_list (K := K) (a := l) (xs := refs zs) N
      (by rw [hN]; exact ⟨same_new nT, ⟨[], upd_same, Nat.le_refl _, fun z h => absurd h List.not_mem_nil⟩, none, rfl⟩) (fun i σ H' hi h => ?_) (fun i x σ H' hx h => ?_) (fun σ H' h => ?_)⟩
    · rw [hN] at h
      exact .inl (.inl (h.1 _ _ hl))
    · obtain ⟨z, e, mz, rfl⟩ := map_at hx
      have ez := take_one e
      rw [hN] at h
      obtain ⟨s1, ⟨ts, hT, tl, hts⟩, v3, rfl⟩ := h
      have zl : zs.length ≤ 8 := by
        have := ok.few
        rw [List.length_map] at this
        exact this
      have il : i < 8 := by
        have := (List.getElem?_eq_some_iff.mp e).1
        omega
      have hD1 := (hz z mz).same s1
      obtain ⟨dz, v, hd, hv⟩ := id hD1
      have okz := ok.ok z.2 (List.mem_map_of_mem mz)
      simp only [tSeq, tAsg, tOp, tUn, tVar, tC, rI0, rI, rU, rEq, rNe, gName, tIfS, tTest, tB, tAnd, tOr, tNot, tAndV, tOrV, tNotV, tChain, tRet, tRetN, tNext, tDrop, tCall, tCons, tNil, tLst, tFld, sFld, scal_int, L2.start, List.map_cons, List.map_nil, List.length_cons, List.length_nil, List.replicate_succ, List.replicate_zero, List.cons_append, List.nil_append, List.append_nil, List.getElem?_cons_zero, List.getElem?_cons_succ, List.set_cons_zero, List.set_cons_succ, Option.some.injEq, V.int.injEq, V.bl.injEq, V.ref.injEq, HO.ins.injEq, HO.lst.injEq, List.cons.injEq, and_true, true_and, and_assoc, exists_and_left, exists_eq_left', exists_eq_left, exists_eq_right, Nat.reduceSub, Nat.zero_add, Nat.reduceAdd, Nat.reduceLT, decide_eq_true_eq, decide_true, decide_false, Bool.false_eq_true, if_true, if_false, ite_true, ite_false, nox_K, cxOf_K, tBM, hd, rAppend, cDecree.cl, cDecree.n_moment, cDecree.n_offset, cDecree.n_summer, lk_Decree_moment, lk_Decree_offset, lk_Decree_summer, pn_Decree_moment, pn_Decree_offset, pn_Decree_summer, pu_Decree_moment, pu_Decree_offset, pu_Decree_summer]
      refine ⟨.inl ⟨rfl, _, .inl (.inl hT)⟩, _, hT, len_line (n := 16) (by rw [List.length_map]; omega), ?_⟩
      have s2 : Same H (upd H' T0 (HO.lst (natV ts ++ [V.int z.2.from_]))) := same_upd nT s1
      have hD2 := (hz z mz).same s2
      obtain ⟨dz2, v2, hd2, hv2⟩ := id hD2
      simp only [tSeq, tAsg, tOp, tUn, tVar, tC, rI0, rI, rU, rEq, rNe, gName, tIfS, tTest, tB, tAnd, tOr, tNot, tAndV, tOrV, tNotV, tChain, tRet, tRetN, tNext, tDrop, tCall, tCons, tNil, tLst, tFld, sFld, scal_int, L2.start, List.map_cons, List.map_nil, List.length_cons, List.length_nil, List.replicate_succ, List.replicate_zero, List.cons_append, List.nil_append, List.append_nil, List.getElem?_cons_zero, List.getElem?_cons_succ, List.set_cons_zero, List.set_cons_succ, Option.some.injEq, V.int.injEq, V.bl.injEq, V.ref.injEq, HO.ins.injEq, HO.lst.injEq, List.cons.injEq, and_true, true_and, and_assoc, exists_and_left, exists_eq_left', exists_eq_left, exists_eq_right, Nat.reduceSub, Nat.zero_add, Nat.reduceAdd, Nat.reduceLT, decide_eq_true_eq, decide_true, decide_false, Bool.false_eq_true, if_true, if_false, ite_true, ite_false, nox_K, cxOf_K, hd2, cDecree.cl, cDecree.n_moment, cDecree.n_offset, cDecree.n_summer, lk_Decree_moment, lk_Decree_offset, lk_Decree_summer, pn_Decree_moment, pn_Decree_offset, pn_Decree_summer, pu_Decree_moment, pu_Decree_offset, pu_Decree_summer]
      have keep : ∀ y ∈ zs.take (i + 1), y ∈ zs.take i ∨ y = z := fun y hy => by
        rw [ez] at hy
        rcases List.mem_append.mp hy with m | m
        · exact .inl m
        · exact .inr (List.mem_singleton.mp m)
      cases hs : z.2.summer with
      | none =>
        rw [hs] at hv2
        have hv2' : v2 = .non := hv2
        subst hv2'
        rw [if_neg (by decide), hN]
        refine ⟨s2, ⟨ts ++ [z.2.from_], by rw [upd_same, natV, natV, List.map_append]; rfl, by rw [List.length_append, List.length_singleton]; omega, fun y hy => ?_⟩, _, rfl⟩
        rcases keep y hy with m | rfl
        · obtain ⟨k1, k2⟩ := hts y m
          exact ⟨List.mem_append_left _ k1, fun x a b e t ht => List.mem_append_left _ (k2 x a b e t ht)⟩
        · exact ⟨List.mem_append_right _ (List.mem_singleton.mpr rfl), fun x a b e => by rw [hs] at e; cases e⟩
      | some c =>
        obtain ⟨x, a, b⟩ := c
        rw [hs] at hv2
        obtain ⟨ps, rfl, hS⟩ := hv2
        obtain ⟨_, _, oa, ob, _⟩ := okz.sum _ _ _ hs
        rw [if_pos (show (!decide (V.ref ps = V.non)) = true from rfl)]
        simp only [tSeq, tAsg, tOp, tUn, tVar, tC, rI0, rI, rU, rEq, rNe, gName, tIfS, tTest, tB, tAnd, tOr, tNot, tAndV, tOrV, tNotV, tChain, tRet, tRetN, tNext, tDrop, tCall, tCons, tNil, tLst, tFld, sFld, scal_int, L2.start, List.map_cons, List.map_nil, List.length_cons, List.length_nil, List.replicate_succ, List.replicate_zero, List.cons_append, List.nil_append, List.append_nil, List.getElem?_cons_zero, List.getElem?_cons_succ, List.set_cons_zero, List.set_cons_succ, Option.some.injEq, V.int.injEq, V.bl.injEq, V.ref.injEq, HO.ins.injEq, HO.lst.injEq, List.cons.injEq, and_true, true_and, and_assoc, exists_and_left, exists_eq_left', exists_eq_left, exists_eq_right, Nat.reduceSub, Nat.zero_add, Nat.reduceAdd, Nat.reduceLT, decide_eq_true_eq, decide_true, decide_false, Bool.false_eq_true, if_true, if_false, ite_true, ite_false, nox_K, cxOf_K, tCB, hd2, cDecree.cl, cDecree.n_moment, cDecree.n_offset, cDecree.n_summer, lk_Decree_moment, lk_Decree_offset, lk_Decree_summer, pn_Decree_moment, pn_Decree_offset, pn_Decree_summer, pu_Decree_moment, pu_Decree_offset, pu_Decree_summer]
        have em : (if (z.2.from_ : Int) > (u : Int) then (z.2.from_ : Int) else (u : Int)) = ((max u z.2.from_ : Nat) : Int) := by
          split <;> omega
        rw [em]
        refine ⟨.inl ⟨rfl, _, .inl (.inl upd_same)⟩, ps, x, a, b, max u z.2.from_, rfl, hS, oa, ob, fun H3 t s3 ht => ?_⟩
        have hT3 := s3 _ _ (upd_same (H := H') (a := T0) (o := HO.lst (natV ts ++ [V.int z.2.from_])))
        refine ⟨_, hT3, len_line (n := 17) (by rw [List.length_append, List.length_map, List.length_singleton]; omega), ?_⟩
        rw [hN]
        refine ⟨same_upd nT (fun b o h => s3 _ _ (s2 _ _ h)), ⟨ts ++ [z.2.from_, t], ?_, by rw [List.length_append]; show ts.length + 2 ≤ _; omega, fun y hy => ?_⟩, _, rfl⟩
        · rw [upd_same, natV, natV, List.map_append, List.append_assoc]
          rfl
        rcases keep y hy with m | rfl
        · obtain ⟨k1, k2⟩ := hts y m
          exact ⟨List.mem_append_left _ k1, fun x a b e t ht => List.mem_append_left _ (k2 x a b e t ht)⟩
        · refine ⟨List.mem_append_right _ (List.mem_cons_self ..), fun x' a' b' e t' ht' => List.mem_append_right _ (List.mem_cons_of_mem _ (List.mem_singleton.mpr ?_))⟩
          rw [hs] at e
          cases e
          exact ht'.eq ht
    · rw [hN] at h
      obtain ⟨s1, ⟨ts, hT, tl, hts⟩, v3, rfl⟩ := h
      rw [List.take_of_length_le (by rw [refs, List.length_map]; exact Nat.le_refl _)] at hts
      have zl : zs.length ≤ 8 := by
        have := ok.few
        rw [List.length_map] at this
        exact this
      have tl2 : ts.length ≤ 16 := by
        rw [refs, List.length_map] at tl
        omega
      have all : ∀ t, Least (Change (zs.map (·.2)) u) t → t ∈ ts := fun t ht => by
        obtain ⟨d, md, h⟩ := change_tried ok ht
        obtain ⟨z, mz, rfl⟩ := List.mem_map.mp md
        obtain ⟨k1, k2⟩ := hts z mz
        rcases h with h | ⟨x, a, b, e, h⟩
        · rw [h]
          exact k1
        · exact k2 x a b e t h
      clear hts
      simp only [tSeq, tAsg, tOp, tUn, tVar, tC, rI0, rI, rU, rEq, rNe, gName, tIfS, tTest, tB, tAnd, tOr, tNot, tAndV, tOrV, tNotV, tChain, tRet, tRetN, tNext, tDrop, tCall, tCons, tNil, tLst, tFld, sFld, scal_int, L2.start, List.map_cons, List.map_nil, List.length_cons, List.length_nil, List.replicate_succ, List.replicate_zero, List.cons_append, List.nil_append, List.append_nil, List.getElem?_cons_zero, List.getElem?_cons_succ, List.set_cons_zero, List.set_cons_succ, Option.some.injEq, V.int.injEq, V.bl.injEq, V.ref.injEq, HO.ins.injEq, HO.lst.injEq, List.cons.injEq, and_true, true_and, and_assoc, exists_and_left, exists_eq_left', exists_eq_left, exists_eq_right, Nat.reduceSub, Nat.zero_add, Nat.reduceAdd, Nat.reduceLT, decide_eq_true_eq, decide_true, decide_false, Bool.false_eq_true, if_true, if_false, ite_true, ite_false, nox_K, cxOf_K, iList, tMinD]
      obtain ⟨g, hg⟩ : ∃ g : Nat → Bool, g = fun t => decide (u < t ∧ t < 52596000) := ⟨_, rfl⟩
      have gT : ∀ t, g t = true ↔ u < t ∧ t < 52596000 := fun t => by
        rw [hg]
        exact decide_eq_true_iff
      clear hg
      obtain ⟨bs, hbs⟩ : ∃ bs : List Nat, bs = ts.filter g := ⟨_, rfl⟩
      refine ⟨_, rfl, T0, rfl, ⟨_, .inl (.inl hT)⟩, fun D nD => lc_list (K := K) (a := T0) (xs := natV ts) (fun i H2 => Same H' H2 ∧ H2 D = some (.lst (natV ((ts.take i).filter g)))) ⟨same_new nD, by rw [upd_same]; rfl⟩ (fun i H2 hi h => .inl (.inl (h.1 _ _ hT))) (fun i x H2 hx h => ?_) (fun H2 h => ?_)⟩
      · obtain ⟨t, et, mt, rfl⟩ := map_at hx
        simp only [tSeq, tAsg, tOp, tUn, tVar, tC, rI0, rI, rU, rEq, rNe, gName, tIfS, tTest, tB, tAnd, tOr, tNot, tAndV, tOrV, tNotV, tChain, tRet, tRetN, tNext, tDrop, tCall, tCons, tNil, tLst, tFld, sFld, scal_int, L2.start, List.map_cons, List.map_nil, List.length_cons, List.length_nil, List.replicate_succ, List.replicate_zero, List.cons_append, List.nil_append, List.append_nil, List.getElem?_cons_zero, List.getElem?_cons_succ, List.set_cons_zero, List.set_cons_succ, Option.some.injEq, V.int.injEq, V.bl.injEq, V.ref.injEq, HO.ins.injEq, HO.lst.injEq, List.cons.injEq, and_true, true_and, and_assoc, exists_and_left, exists_eq_left', exists_eq_left, exists_eq_right, Nat.reduceSub, Nat.zero_add, Nat.reduceAdd, Nat.reduceLT, decide_eq_true_eq, decide_true, decide_false, Bool.false_eq_true, if_true, if_false, ite_true, ite_false, nox_K, cxOf_K, wipe, blk_K]
        have ft : ((ts.take (i + 1)).filter g) = ((ts.take i).filter g) ++ [t].filter g := by
          rw [take_one et, List.filter_append]
        rw [ft]
        have skip : ¬ (u < t ∧ t < 52596000) → Same H' H2 ∧ H2 D = some (.lst (natV (((ts.take i).filter g) ++ [t].filter g))) := fun c => by
          refine ⟨h.1, ?_⟩
          rw [List.filter_cons, if_neg (fun z => c ((gT t).mp z)), List.filter_nil, List.append_nil]
          exact h.2
        by_cases hu : u < t
        · rw [if_pos (Int.ofNat_lt.mpr hu)]
          refine ⟨(t : Int), rfl, _, rfl, ?_⟩
          have hM := Nat.lt_or_ge t 52596000
          cases hM with
          | inl hM =>
            have c : u < t ∧ t < 52596000 := ⟨hu, hM⟩
            rw [decide_eq_true (show (0 : Int) ≤ (t : Int) ∧ (t : Int) < 52596000 by omega), if_pos rfl]
            refine ⟨_, h.2, len_line (n := 16) ?_, same_upd nD h.1, ?_⟩
            · rw [List.length_map]
              exact Nat.le_trans (List.length_filter_le _ _) (Nat.le_trans (List.length_take_le' _ _) tl2)
            · rw [upd_same, List.filter_cons, if_pos ((gT t).mpr c), natV, natV, List.map_append]
              rfl
          | inr hM =>
            rw [decide_eq_false (show ¬ ((0 : Int) ≤ (t : Int) ∧ (t : Int) < 52596000) by omega), if_neg Bool.false_ne_true]
            exact skip fun z => absurd z.2 (Nat.not_lt.mpr hM)
        · rw [if_neg fun z => hu (Int.ofNat_lt.mp z)]
          exact skip fun z => hu z.1
      · obtain ⟨s2, hD⟩ := h
        rw [List.take_of_length_le (by rw [List.length_map]; exact Nat.le_refl _), ← hbs] at hD
        have s3 : Same H H2 := fun b o h => s2 _ _ (s1 _ _ h)
        have bl : bs.length ≤ 16 := by
          rw [hbs]
          exact Nat.le_trans (List.length_filter_le _ _) tl2
        obtain ⟨cs, hcs⟩ : ∃ cs : List Nat, cs = bs.filter fun t => !decide (Cl02.offsetAt (zs.map (·.2)) t = Cl02.offsetAt (zs.map (·.2)) (t - 1)) := ⟨_, rfl⟩
        have mem : ∀ t, t ∈ cs ↔ t ∈ ts ∧ Change (zs.map (·.2)) u t := fun t => by
          rw [hcs, hbs, List.mem_filter, List.mem_filter, Bool.not_eq_true', decide_eq_false_iff_not, gT]
          unfold Change
          constructor
          · rintro ⟨⟨a, b, c⟩, d⟩
            exact ⟨a, b, c, fun z => d z.symm⟩
          · rintro ⟨a, b, c, d⟩
            exact ⟨⟨a, b, c⟩, fun z => d z.symm⟩
        refine ⟨_, rfl, D, rfl, ⟨_, .inl (.inl hD)⟩, fun D2 nD2 => lc_list (K := K) (a := D) (xs := natV bs) (fun i H3 => Same H2 H3 ∧ H3 D2 = some (.lst (natV ((bs.take i).filter fun t => !decide (Cl02.offsetAt (zs.map (·.2)) t = Cl02.offsetAt (zs.map (·.2)) (t - 1)))))) ⟨same_new nD2, by rw [upd_same]; rfl⟩ (fun i H3 hi h => .inl (.inl (h.1 _ _ hD))) (fun i x H3 hx h => ?_) (fun H3 h => ?_)⟩
        · obtain ⟨t, et, mt, rfl⟩ := map_at hx
          have ut : u < t := by
            rw [hbs] at mt
            exact ((gT t).mp (List.mem_filter.mp mt).2).1
          simp only [tSeq, tAsg, tOp, tUn, tVar, tC, rI0, rI, rU, rEq, rNe, gName, tIfS, tTest, tB, tAnd, tOr, tNot, tAndV, tOrV, tNotV, tChain, tRet, tRetN, tNext, tDrop, tCall, tCons, tNil, tLst, tFld, sFld, scal_int, L2.start, List.map_cons, List.map_nil, List.length_cons, List.length_nil, List.replicate_succ, List.replicate_zero, List.cons_append, List.nil_append, List.append_nil, List.getElem?_cons_zero, List.getElem?_cons_succ, List.set_cons_zero, List.set_cons_succ, Option.some.injEq, V.int.injEq, V.bl.injEq, V.ref.injEq, HO.ins.injEq, HO.lst.injEq, List.cons.injEq, and_true, true_and, and_assoc, exists_and_left, exists_eq_left', exists_eq_left, exists_eq_right, Nat.reduceSub, Nat.zero_add, Nat.reduceAdd, Nat.reduceLT, decide_eq_true_eq, decide_true, decide_false, Bool.false_eq_true, if_true, if_false, ite_true, ite_false, nox_K, cxOf_K, wipe, blk_K]
          have ft : ((bs.take (i + 1)).filter fun t => !decide (Cl02.offsetAt (zs.map (·.2)) t = Cl02.offsetAt (zs.map (·.2)) (t - 1))) = ((bs.take i).filter fun t => !decide (Cl02.offsetAt (zs.map (·.2)) t = Cl02.offsetAt (zs.map (·.2)) (t - 1))) ++ [t].filter fun t => !decide (Cl02.offsetAt (zs.map (·.2)) t = Cl02.offsetAt (zs.map (·.2)) (t - 1)) := by
            rw [take_one et, List.filter_append]
          rw [ft]
          refine ⟨p, _, t, rfl, hP0.same (fun b o q => h.1 _ _ (s3 _ _ q)), ok, by omega, _, rfl, ?_⟩
          cases hc : !decide (Cl02.offsetAt (zs.map (·.2)) t = Cl02.offsetAt (zs.map (·.2)) (t - 1)) with
          | true =>
            rw [if_pos rfl]
            refine ⟨_, h.2, len_line (n := 16) ?_, same_upd nD2 h.1, ?_⟩
            · rw [List.length_map]
              exact Nat.le_trans (List.length_filter_le _ _) (Nat.le_trans (List.length_take_le' _ _) bl)
            · rw [upd_same, List.filter_cons, if_pos hc, natV, natV, List.map_append]
              rfl
          | false =>
            rw [if_neg (by decide)]
            refine ⟨h.1, ?_⟩
            rw [List.filter_cons, if_neg (fun z => by rw [hc] at z; cases z), List.filter_nil, List.append_nil]
            exact h.2
        · obtain ⟨s4, hD3⟩ := h
          rw [List.take_of_length_le (by rw [List.length_map]; exact Nat.le_refl _), ← hcs] at hD3
          have eD : natV cs = (cs.map fun (t : Nat) => (t : Int)).map V.int := by
            rw [List.map_map]
            rfl
          rw [eD] at hD3
          have s5 : Same H H3 := fun b o h => s4 _ _ (s3 _ _ h)
          refine ⟨D2, rfl, _, .inl (.inl hD3), fun e => q2 H3 s5 fun t ht => ?_, fun m hm hl => ?_⟩
          · obtain ⟨t', ht'⟩ := least_ex ⟨t, ht⟩
            have := (mem t').mpr ⟨all t' ht', ht'.1⟩
            rw [List.map_eq_nil_iff.mp e] at this
            cases this
          · obtain ⟨t, ht, rfl⟩ := List.mem_map.mp hm
            refine q1 H3 t s5 ⟨((mem t).mp ht).2, fun c hc => ?_⟩
            obtain ⟨t', ht'⟩ := least_ex ⟨c, hc⟩
            have l1 := hl t' (List.mem_map.mpr ⟨t', (mem t').mpr ⟨all t' ht', ht'.1⟩, rfl⟩)
            have l2 := ht'.2 c hc
            omega
theorem ok_first_showing_more (T : Txt mg) (I_is_moment : Is P w K mg base 1 "is_moment" ["number"] spIsMoment) (I_shown_at : Is P w K mg base 8 "shown_at" ["place", "moment"] (spShownAt cT cS cD cP)) (I_next_change : Is P w K mg base 9 "next_change" ["place", "moment"] (spNextChange cT cS cD cP))
    (D : Def K mg "first_showing_more" s_first_showing_more ["place", "shown"]) : Is P w K mg base 10 "first_showing_more" ["place", "shown"] (spFirstMore cT cS cD cP) := by
  refine Is.by D fun f fd F => F.ok sc_first_showing_more (fun vs H Q E h => ?_) (fun cdv A outer s H vs Q E hr h => ?_)
  · obtain ⟨_, _, _, rfl, _⟩ := h
    rfl
  · obtain ⟨p, ds, l, rfl, hP, ok, hn, q1, q2⟩ := h
    refine ⟨_, (pss_cons (ps_set (i := 2) sc_first_showing_more.nd rfl (Or.inl rfl) (pe_callB (call_max2 rfl) (by rfl) T.n_max (by decide +kernel) (pa_cons pe_int (pa_cons (pe_op op_sub (pv 1) (pe_cst T.g_FURTHEST_BACK rfl)) pa_nil))))
    (pss_cons (ps_if (pt_not (pt_val (pe_is I_is_moment (hr.mono (by decide)) rfl (pa_cons (pv 2) pa_nil)))) (pss_one (ps_ret pe_non)) pss_nil)
    (pss_cons (ps_while PassesOwn.never (PW.pt (pw_and (pt_cmpR op_notN (pv 2) pe_non (nomark _)) (pw_and1 (pt_cmpR op_lt (pe_is I_shown_at (hr.mono (by decide)) rfl (pa_cons (pv 0) (pa_cons (pv 2) pa_nil))) (pv 1) (nomark _))))) (pss_one (ps_set (i := 2) sc_first_showing_more.nd rfl (Or.inl rfl) (pe_is I_next_change (hr.mono (by decide)) rfl (pa_cons (pv 0) (pa_cons (pv 2) pa_nil))))))
    (pss_one (ps_ret (pv 2)))))), ?_⟩
    simp only [tSeq, tAsg, tOp, tUn, tVar, tC, rI0, rI, rU, rEq, rNe, gName, tIfS, tTest, tB, tAnd, tOr, tNot, tAndV, tOrV, tNotV, tChain, tRet, tRetN, tNext, tDrop, tCall, tCons, tNil, tLst, tFld, sFld, scal_int, L2.start, List.map_cons, List.map_nil, List.length_cons, List.length_nil, List.replicate_succ, List.replicate_zero, List.cons_append, List.nil_append, List.append_nil, List.getElem?_cons_zero, List.getElem?_cons_succ, List.set_cons_zero, List.set_cons_succ, Option.some.injEq, V.int.injEq, V.bl.injEq, V.ref.injEq, HO.ins.injEq, HO.lst.injEq, List.cons.injEq, and_true, true_and, and_assoc, exists_and_left, exists_eq_left', exists_eq_left, exists_eq_right, Nat.reduceSub, Nat.zero_add, Nat.reduceAdd, Nat.reduceLT, decide_eq_true_eq, decide_true, decide_false, Bool.false_eq_true, if_true, if_false, ite_true, ite_false, nox_K, cxOf_K, tCB]
    obtain ⟨m0, e0, e1⟩ : ∃ m0 : Nat, (if l - 1000 > 0 then l - 1000 else 0) = (m0 : Int) ∧ ∀ t : Nat, t < m0 → (t : Int) < l - 960 := by
      by_cases c : l - 1000 > 0
      · refine ⟨(l - 1000).toNat, ?_, fun t ht => ?_⟩
        · rw [if_pos c]
          omega
        · omega
      · exact ⟨0, if_neg c, fun t ht => absurd ht (Nat.not_lt_zero _)⟩
    rw [e0]
    refine ⟨(m0 : Int), rfl, _, rfl, ?_⟩
    have hm := Nat.lt_or_ge m0 52596000
    cases hm with
    | inr hm =>
      rw [decide_eq_false (show ¬ ((0 : Int) ≤ (m0 : Int) ∧ (m0 : Int) < 52596000) by omega), if_pos (by decide)]
      exact q2 H (fun b o h => h) fun t ht => far_back ok (e1 t (Nat.lt_of_lt_of_le ht hm))
    | inl hm =>
      rw [decide_eq_true (show (0 : Int) ≤ (m0 : Int) ∧ (m0 : Int) < 52596000 by omega), if_neg (by decide)]
      obtain ⟨W, hW⟩ : ∃ W : Nat → L2.St → Hp → Prop, W = fun m σ H' => Same H H' ∧ ((σ = [some (V.ref p), some (V.int l), some V.non] ∧ ∀ t, t < 52596000 → Cl02.shown ds t < l) ∨ ∃ t : Nat, σ = [some (V.ref p), some (V.int l), some (V.int t)] ∧ t < 52596000 ∧ m + t = 52596001 ∧ ∀ x, x < t → Cl02.shown ds x < l) := ⟨_, rfl⟩
      refine ⟨W, ⟨52596001 - m0, by rw [hW]; exact ⟨fun b o h => h, .inr ⟨m0, rfl, hm, by omega, fun x hx => far_back ok (e1 x hx)⟩⟩⟩, fun m σ H' h => ?_⟩
      rw [hW] at h
      obtain ⟨s1, h⟩ := h
      rcases h with ⟨rfl, h⟩ | ⟨t, rfl, tM, em, h⟩
      · simp only [tSeq, tAsg, tOp, tUn, tVar, tC, rI0, rI, rU, rEq, rNe, gName, tIfS, tTest, tB, tAnd, tOr, tNot, tAndV, tOrV, tNotV, tChain, tRet, tRetN, tNext, tDrop, tCall, tCons, tNil, tLst, tFld, sFld, scal_int, L2.start, List.map_cons, List.map_nil, List.length_cons, List.length_nil, List.replicate_succ, List.replicate_zero, List.cons_append, List.nil_append, List.append_nil, List.getElem?_cons_zero, List.getElem?_cons_succ, List.set_cons_zero, List.set_cons_succ, Option.some.injEq, V.int.injEq, V.bl.injEq, V.ref.injEq, HO.ins.injEq, HO.lst.injEq, List.cons.injEq, and_true, true_and, and_assoc, exists_and_left, exists_eq_left', exists_eq_left, exists_eq_right, Nat.reduceSub, Nat.zero_add, Nat.reduceAdd, Nat.reduceLT, decide_eq_true_eq, decide_true, decide_false, Bool.false_eq_true, if_true, if_false, ite_true, ite_false, nox_K, cxOf_K]
        exact q2 H' s1 h
      · simp only [tSeq, tAsg, tOp, tUn, tVar, tC, rI0, rI, rU, rEq, rNe, gName, tIfS, tTest, tB, tAnd, tOr, tNot, tAndV, tOrV, tNotV, tChain, tRet, tRetN, tNext, tDrop, tCall, tCons, tNil, tLst, tFld, sFld, scal_int, L2.start, List.map_cons, List.map_nil, List.length_cons, List.length_nil, List.replicate_succ, List.replicate_zero, List.cons_append, List.nil_append, List.append_nil, List.getElem?_cons_zero, List.getElem?_cons_succ, List.set_cons_zero, List.set_cons_succ, Option.some.injEq, V.int.injEq, V.bl.injEq, V.ref.injEq, HO.ins.injEq, HO.lst.injEq, List.cons.injEq, and_true, true_and, and_assoc, exists_and_left, exists_eq_left', exists_eq_left, exists_eq_right, Nat.reduceSub, Nat.zero_add, Nat.reduceAdd, Nat.reduceLT, decide_eq_true_eq, decide_true, decide_false, Bool.false_eq_true, if_true, if_false, ite_true, ite_false, nox_K, cxOf_K]
        rw [if_pos (show (!decide (V.int (t : Int) = V.non)) = true from rfl)]
        refine ⟨p, ds, t, rfl, hP.same s1, ok, ?_⟩
        simp only [tSeq, tAsg, tOp, tUn, tVar, tC, rI0, rI, rU, rEq, rNe, gName, tIfS, tTest, tB, tAnd, tOr, tNot, tAndV, tOrV, tNotV, tChain, tRet, tRetN, tNext, tDrop, tCall, tCons, tNil, tLst, tFld, sFld, scal_int, L2.start, List.map_cons, List.map_nil, List.length_cons, List.length_nil, List.replicate_succ, List.replicate_zero, List.cons_append, List.nil_append, List.append_nil, List.getElem?_cons_zero, List.getElem?_cons_succ, List.set_cons_zero, List.set_cons_succ, Option.some.injEq, V.int.injEq, V.bl.injEq, V.ref.injEq, HO.ins.injEq, HO.lst.injEq, List.cons.injEq, and_true, true_and, and_assoc, exists_and_left, exists_eq_left', exists_eq_left, exists_eq_right, Nat.reduceSub, Nat.zero_add, Nat.reduceAdd, Nat.reduceLT, decide_eq_true_eq, decide_true, decide_false, Bool.false_eq_true, if_true, if_false, ite_true, ite_false, nox_K, cxOf_K]
        have hn' := hn t tM
        by_cases hl : Cl02.shown ds t < l
        · rw [if_pos hl]
          refine ⟨fun σ' H1 => ∃ m', m' < m ∧ W m' σ' H1, fun σ' H1 hw => hw, p, ds, t, rfl, hP.same s1, ok, fun H1 c s2 hc => ?_, fun H1 s2 hc => ?_⟩
          · obtain ⟨c1, c2, c3⟩ := hc.1
            refine ⟨52596001 - c, by omega, ?_⟩
            rw [hW]
            refine ⟨fun b o h => s2 _ _ (s1 _ _ h), .inr ⟨c, rfl, c2, by omega, fun x hx => ?_⟩⟩
            by_cases ht : x < t
            · exact h x ht
            · refine shown_on hn (Nat.le_of_lt c2) (fun y y1 y2 => ?_) hl x (Nat.le_of_not_lt ht) hx
              have := hc.2 y
              by_cases e : Cl02.offsetAt ds (y - 1) = Cl02.offsetAt ds y
              · exact e
              · have := this ⟨y1, by omega, e⟩
                omega
          · refine ⟨0, by omega, ?_⟩
            rw [hW]
            refine ⟨fun b o h => s2 _ _ (s1 _ _ h), .inl ⟨rfl, fun x hx => ?_⟩⟩
            by_cases ht : x < t
            · exact h x ht
            · refine shown_on hn (Nat.le_refl _) (fun y y1 y2 => ?_) hl x (Nat.le_of_not_lt ht) hx
              by_cases e : Cl02.offsetAt ds (y - 1) = Cl02.offsetAt ds y
              · exact e
              · exact absurd ⟨y1, y2, e⟩ (hc y)
        · rw [if_neg hl]
          refine q1 H' t s1 ⟨⟨tM, by omega⟩, fun x hx => Nat.le_of_not_lt fun z => ?_⟩
          have := h x z
          have := hx.2
          omega
theorem ok_moment_meant (T : Txt mg) (I_moments_showing : Is P w K mg base 9 "moments_showing" ["place", "shown"] (spMoments cT cS cD cP)) (I_first_showing_more : Is P w K mg base 10 "first_showing_more" ["place", "shown"] (spFirstMore cT cS cD cP))
    (D : Def K mg "moment_meant" s_moment_meant ["place", "shown"]) : Is P w K mg base 11 "moment_meant" ["place", "shown"] (spMeant cT cS cD cP) := by
  refine Is.by D fun f fd F => F.ok sc_moment_meant (fun vs H Q E h => ?_) (fun cdv A outer s H vs Q E hr h => ?_)
  · obtain ⟨_, _, _, rfl, _⟩ := h
    rfl
  · obtain ⟨p, ds, l, rfl, hP, ok, q1, q2⟩ := h
    refine ⟨_, (pss_cons (ps_set (i := 2) sc_moment_meant.nd rfl (Or.inl rfl) (pe_is I_moments_showing (hr.mono (by decide)) rfl (pa_cons (pv 0) (pa_cons (pv 1) pa_nil))))
    (pss_cons (ps_if (pt_cmpR op_gt (pe_callB call_len_seq (by rfl) T.n_len PySem.boot_len (pa_cons (pv 2) pa_nil)) pe_int (nomark _)) (pss_one (ps_ret (pe_ix ix_list (pv 2) pe_int (fun _ _ => rfl)))) pss_nil)
    (pss_one (ps_ret (pe_is I_first_showing_more (hr.mono (by decide)) rfl (pa_cons (pv 0) (pa_cons (pv 1) pa_nil))))))), ?_⟩
    simp only [tSeq, tAsg, tOp, tUn, tVar, tC, rI0, rI, rU, rEq, rNe, gName, tIfS, tTest, tB, tAnd, tOr, tNot, tAndV, tOrV, tNotV, tChain, tRet, tRetN, tNext, tDrop, tCall, tCons, tNil, tLst, tFld, sFld, scal_int, L2.start, List.map_cons, List.map_nil, List.length_cons, List.length_nil, List.replicate_succ, List.replicate_zero, List.cons_append, List.nil_append, List.append_nil, List.getElem?_cons_zero, List.getElem?_cons_succ, List.set_cons_zero, List.set_cons_succ, Option.some.injEq, V.int.injEq, V.bl.injEq, V.ref.injEq, HO.ins.injEq, HO.lst.injEq, List.cons.injEq, and_true, true_and, and_assoc, exists_and_left, exists_eq_left', exists_eq_left, exists_eq_right, Nat.reduceSub, Nat.zero_add, Nat.reduceAdd, Nat.reduceLT, decide_eq_true_eq, decide_true, decide_false, Bool.false_eq_true, if_true, if_false, ite_true, ite_false, nox_K, cxOf_K, tCB]
    refine ⟨p, ds, l, rfl, hP, ok, fun H1 r s1 hr1 => ?_⟩
    simp only [tSeq, tAsg, tOp, tUn, tVar, tC, rI0, rI, rU, rEq, rNe, gName, tIfS, tTest, tB, tAnd, tOr, tNot, tAndV, tOrV, tNotV, tChain, tRet, tRetN, tNext, tDrop, tCall, tCons, tNil, tLst, tFld, sFld, scal_int, L2.start, List.map_cons, List.map_nil, List.length_cons, List.length_nil, List.replicate_succ, List.replicate_zero, List.cons_append, List.nil_append, List.append_nil, List.getElem?_cons_zero, List.getElem?_cons_succ, List.set_cons_zero, List.set_cons_succ, Option.some.injEq, V.int.injEq, V.bl.injEq, V.ref.injEq, HO.ins.injEq, HO.lst.injEq, List.cons.injEq, and_true, true_and, and_assoc, exists_and_left, exists_eq_left', exists_eq_left, exists_eq_right, Nat.reduceSub, Nat.zero_add, Nat.reduceAdd, Nat.reduceLT, decide_eq_true_eq, decide_true, decide_false, Bool.false_eq_true, if_true, if_false, ite_true, ite_false, nox_K, cxOf_K, tCB]
    refine ⟨_, .inl (.inl (.inl hr1)), ?_⟩
    rw [List.length_map]
    rcases meant_cases ok l with ⟨t, ts, e1, e2, e3⟩ | ⟨e1, hn, hc⟩
    · rw [e1] at hr1 ⊢
      rw [if_pos (by show (0 : Int) < ((ts.length + 1 : Nat) : Int); omega)]
      exact ixl (j := 0) (.inl (.inl hr1)) (v := .int t) rfl (q1 H1 t true s1 e2 (decide_eq_true e3))
    · rw [e1, if_neg (by decide)]
      refine ⟨p, ds, l, rfl, hP.same s1, ok, hn, fun H2 t s2 ht => ?_, fun H2 s2 hx => ?_⟩
      · rcases hc with ⟨t', ht', e2⟩ | ⟨h, _⟩
        · rw [ht.eq ht']
          refine q1 H2 t' false (fun b o h => s2 _ _ (s1 _ _ h)) e2 (decide_eq_false (hn t' ht'.1.1))
        · have := h t ht.1.1
          have := ht.1.2
          omega
      · rcases hc with ⟨t', ht', e2⟩ | ⟨h, e2⟩
        · have := hx t' ht'.1.1
          have := ht'.1.2
          omega
        · exact q2 H2 (fun b o h => s2 _ _ (s1 _ _ h)) e2
end
end Pc
namespace Pc
open PySem PySem.Spec PyProof.Rows L2 PcR PcM
open Cl02 (Turn Decree)
/-! ### reader -/
theorem lk_Reader_numbers {x0 x1 : V} : List.lookup ("numbers" : Str) ([("numbers", x0), ("at", x1)] : List (Str × V)) = some x0 := lkh
theorem pn_Reader_numbers { v : V} : putF ("numbers" : Str) v ([] : List (Str × V)) = ([("numbers", v)] : List (Str × V)) := rfl
theorem pu_Reader_numbers {x0 x1 v : V} : putF ("numbers" : Str) v ([("numbers", x0), ("at", x1)] : List (Str × V)) = ([("numbers", v), ("at", x1)] : List (Str × V)) := puth
theorem lk_Reader_at {x0 x1 : V} : List.lookup ("at" : Str) ([("numbers", x0), ("at", x1)] : List (Str × V)) = some x1 := (lkp (show (("at" : Str) == "numbers") = false by decide +kernel)).trans (lkh)
theorem pn_Reader_at {x0 v : V} : putF ("at" : Str) v ([("numbers", x0)] : List (Str × V)) = ([("numbers", x0), ("at", v)] : List (Str × V)) := (putp (show ¬ ("numbers" : Str) = "at" by decide +kernel)).trans (congrArg _ (rfl))
theorem pu_Reader_at {x0 x1 v : V} : putF ("at" : Str) v ([("numbers", x0), ("at", x1)] : List (Str × V)) = ([("numbers", x0), ("at", v)] : List (Str × V)) := (putp (show ¬ ("numbers" : Str) = "at" by decide +kernel)).trans (congrArg _ (puth))
theorem no_Reader_is_done {x0 x1 : V} : List.lookup ("is_done" : Str) ([("numbers", x0), ("at", x1)] : List (Str × V)) = none := (lkp (show (("is_done" : Str) == "numbers") = false by decide +kernel)).trans ((lkp (show (("is_done" : Str) == "at") = false by decide +kernel)).trans (rfl))
theorem no_Reader_take_number {x0 x1 : V} : List.lookup ("take_number" : Str) ([("numbers", x0), ("at", x1)] : List (Str × V)) = none := (lkp (show (("take_number" : Str) == "numbers") = false by decide +kernel)).trans ((lkp (show (("take_number" : Str) == "at") = false by decide +kernel)).trans (rfl))
theorem no_Reader_take_row {x0 x1 : V} : List.lookup ("take_row" : Str) ([("numbers", x0), ("at", x1)] : List (Str × V)) = none := (lkp (show (("take_row" : Str) == "numbers") = false by decide +kernel)).trans ((lkp (show (("take_row" : Str) == "at") = false by decide +kernel)).trans (rfl))
/-- the class Reader -/
structure IsReader (K : PySem.W.Frag) (mg : Str → Option Value) (C : Addr) : Prop where
  cl : Cls K C
  at_ : mg "Reader" = some (.ref C)
  n_numbers : NoAttr K C "numbers"
  n_at : NoAttr K C "at"
abbrev intV (ns : List Int) : List V := ns.map V.int
def ReaderAt (cR : Addr) (H : Hp) (r a : Addr) (k : Nat) : Prop := ∃ dx, H r = some (.ins cR dx [("numbers", .ref a), ("at", .int k)])
theorem sql_but {K : PySem.W.Frag} {r a C dx : Addr} {H H' : Hp} {fs : List (Str × V)} {xs : List V} (s : But r H H') (hr : H r = some (.ins C dx fs)) (h : SqL K H a xs) : SqL K H' a xs := by
  rcases h with (h | ⟨z, h⟩) | h
  · refine .inl (.inl (s _ _ ?_ h))
    rintro rfl
    rw [hr] at h
    cases h
  · refine .inl (.inr ⟨z, s _ _ ?_ h⟩)
    rintro rfl
    rw [hr] at h
    cases h
  · exact .inr h
def spReaderInit (C : Addr) : Sp := fun vs H Q _ => ∃ (p dx a : Addr), vs = [.ref p, .ref a] ∧ H p = some (.ins C dx []) ∧ ∀ H' : Hp, ReaderAt C H' p a 0 → But p H H' → Q .non H'
def spIsDone (K : PySem.W.Frag) (C : Addr) : Sp := fun vs H Q _ => ∃ (r a : Addr) (ns : List Int) (k : Nat), vs = [.ref r] ∧ ReaderAt C H r a k ∧ SqL K H a (intV ns) ∧ Q (.bl (decide (ns.length ≤ k))) H
def spTakeNumber (K : PySem.W.Frag) (C : Addr) : Sp := fun vs H Q _ => ∃ (r a : Addr) (ns : List Int) (k : Nat) (n : Int), vs = [.ref r] ∧ ReaderAt C H r a k ∧ SqL K H a (intV ns) ∧ ns[k]? = some n ∧
  ∀ H' : Hp, ReaderAt C H' r a (k + 1) → But r H H' → Q (.int n) H'
def spTakeRow (K : PySem.W.Frag) (C : Addr) : Sp := fun vs H Q _ => ∃ (r a : Addr) (ns : List Int) (k : Nat) (x t : List Int), vs = [.ref r] ∧ ReaderAt C H r a k ∧ SqL K H a (intV ns) ∧ ns.drop k = PyFlat.putRow x ++ t ∧
  ∀ (H' : Hp) (q : Addr), ReaderAt C H' r a (k + 1 + x.length) → But r H H' → H q = none → H' q = some (.lst (intV x)) → Q (.ref q) H'
/-- rows as they lie -/
def RowsAt (H : Hp) (zs : List (Addr × List Int)) : Prop := ∀ z ∈ zs, H z.1 = some (.lst (intV z.2))
def spReadGiven (K : PySem.W.Frag) (C : Addr) : Sp := fun vs H Q _ => ∃ (r a : Addr) (ns : List Int) (k : Nat) (x : List Int) (rows : List (List Int)) (t : List Int), vs = [.ref r, .int x.length, .int rows.length] ∧ ReaderAt C H r a k ∧ SqL K H a (intV ns) ∧
  ns.drop k = x ++ (PyFlat.putRows rows ++ t) ∧ x.length ≤ 10 ∧ rows.length ≤ 10 ∧
  ∀ (H' : Hp) (g : Addr) (zs : List (Addr × List Int)), ReaderAt C H' r a (k + x.length + (PyFlat.putRows rows).length) → But r H H' → H' g = some (.lst (intV x ++ zs.map fun z => V.ref z.1)) → zs.map (·.2) = rows → RowsAt H' zs → Q (.ref g) H'
theorem cut_drop {ns : List Int} {k n : Nat} {x t : List Int} (h : ns.drop k = x ++ t) (hn : n = x.length) : cutV (intV ns) (some (k : Int)) (some ((k : Int) + (n : Int))) = intV x := by
  subst hn
  have lh := congrArg List.length h
  rw [List.length_drop, List.length_append] at lh
  unfold cutV
  have e : (k : Int) + (x.length : Int) = ((k + x.length : Nat) : Int) := by omega
  rw [e, HT.sIx_nat, HT.sIx_nat, List.length_map]
  have e1 : min k ns.length = k ∨ ns.length < k := by omega
  rcases e1 with e1 | e1
  · have e2 : min (k + x.length) ns.length - min k ns.length = x.length := by omega
    rw [e2, e1, ← List.map_drop, h, ← List.map_take, List.take_left]
  · have e2 : x = [] := List.length_eq_zero_iff.mp (by omega)
    have e3 : min (k + x.length) ns.length - min k ns.length = 0 := by omega
    rw [e3, List.take_zero, e2]
    rfl
theorem but_upd {r G : Addr} {H H' : Hp} {o : HO} (n : H G = none) (s : But r H H') : But r H (upd H' G o) := fun b x nb h => by
  rw [upd_ne (ne_of_none h n)]
  exact s _ _ nb h
theorem putRows_append : ∀ a b : List (List Int), PyFlat.putRows (a ++ b) = PyFlat.putRows a ++ PyFlat.putRows b
  | [], _ => rfl
  | x :: a, b => by
    show PyFlat.putRow x ++ PyFlat.putRows (a ++ b) = (PyFlat.putRow x ++ PyFlat.putRows a) ++ PyFlat.putRows b
    rw [putRows_append a b, List.append_assoc]
theorem rows_at {ns x t : List Int} {rows : List (List Int)} {k j : Nat} (h : ns.drop k = x ++ (PyFlat.putRows rows ++ t)) (hj : j < rows.length) :
    ns.drop (k + x.length + (PyFlat.putRows (rows.take j)).length) = PyFlat.putRow rows[j] ++ (PyFlat.putRows (rows.drop (j + 1)) ++ t) := by
  have e : rows = rows.take j ++ (rows[j] :: rows.drop (j + 1)) := by
    rw [← List.drop_eq_getElem_cons hj, List.take_append_drop]
  have e2 : PyFlat.putRows rows = PyFlat.putRows (rows.take j) ++ (PyFlat.putRow rows[j] ++ PyFlat.putRows (rows.drop (j + 1))) := by
    have e3 := congrArg PyFlat.putRows e
    rw [putRows_append] at e3
    exact e3
  rw [← List.drop_drop, ← List.drop_drop, h, List.drop_left, e2, List.append_assoc, List.drop_left, List.append_assoc]
theorem putRows_take {rows : List (List Int)} {j : Nat} (hj : j < rows.length) : (PyFlat.putRows (rows.take (j + 1))).length = (PyFlat.putRows (rows.take j)).length + 1 + rows[j].length := by
  rw [take_one (List.getElem?_eq_getElem hj), putRows_append, List.length_append]
  show _ + ((rows[j].length : Int) :: rows[j] ++ []).length = _
  rw [List.append_nil, List.length_cons]
  omega
abbrev s_Reader_init : Stmt := inClass (topS 47) 0
abbrev N_Reader_init : List Str := ["self", "numbers"]
theorem sc_Reader_init : FnScope ["self", "numbers"] ["self", "numbers"] (defScope s_Reader_init) := ⟨rfl, rfl, rfl, by decide +kernel, rfl, by decide +kernel, by decide +kernel⟩
abbrev s_Reader_is_done : Stmt := inClass (topS 47) 1
abbrev N_Reader_is_done : List Str := ["self"]
theorem sc_Reader_is_done : FnScope ["self"] ["self"] (defScope s_Reader_is_done) := ⟨rfl, rfl, rfl, by decide +kernel, rfl, by decide +kernel, by decide +kernel⟩
abbrev s_Reader_take_number : Stmt := inClass (topS 47) 2
abbrev N_Reader_take_number : List Str := ["self", "number"]
theorem sc_Reader_take_number : FnScope ["self", "number"] ["self"] (defScope s_Reader_take_number) := ⟨rfl, rfl, rfl, by decide +kernel, rfl, by decide +kernel, by decide +kernel⟩
abbrev s_Reader_take_row : Stmt := inClass (topS 47) 3
abbrev N_Reader_take_row : List Str := ["self", "size", "row"]
theorem sc_Reader_take_row : FnScope ["self", "size", "row"] ["self"] (defScope s_Reader_take_row) := ⟨rfl, rfl, rfl, by decide +kernel, rfl, by decide +kernel, by decide +kernel⟩
abbrev s_read_given : Stmt := topS 48
abbrev N_read_given : List Str := ["reader", "number_count", "row_count", "given"]
theorem sc_read_given : FnScope ["reader", "number_count", "row_count", "given"] ["reader", "number_count", "row_count"] (defScope s_read_given) := ⟨rfl, rfl, rfl, by decide +kernel, rfl, by decide +kernel, by decide +kernel⟩
section
variable {P : Program} {w : World} {K : PySem.W.Frag} {mg : Str → Option Value} {base : Heap} {cR : Addr}
theorem ok_Reader_init (cReader : IsReader K mg cR) (D : Ini K "Reader.__init__" cR s_Reader_init ["self", "numbers"]) : IsI P w K mg base 1 cR ["self", "numbers"] (spReaderInit cR) := by
  refine IsI.by D fun f fd F => F.ok sc_Reader_init (fun vs H Q E h => ?_) (fun cdv A outer s H vs Q E hr h => ?_)
  · obtain ⟨_, _, _, rfl, _⟩ := h
    rfl
  · obtain ⟨p, dx, a, rfl, hp, q⟩ := h
    refine ⟨_, (pss_cons (ps_fld (pv 0) (pv 1) rfl)
    (pss_one (ps_fld (pv 0) pe_int rfl))), ?_⟩
    simp only [tSeq, tAsg, tOp, tUn, tVar, tC, rI0, rI, rU, rEq, rNe, gName, tIfS, tTest, tB, tAnd, tOr, tNot, tAndV, tOrV, tNotV, tChain, tRet, tRetN, tNext, tDrop, tCall, tCons, tNil, tLst, tFld, sFld, scal_int, L2.start, List.map_cons, List.map_nil, List.length_cons, List.length_nil, List.replicate_succ, List.replicate_zero, List.cons_append, List.nil_append, List.append_nil, List.getElem?_cons_zero, List.getElem?_cons_succ, List.set_cons_zero, List.set_cons_succ, Option.some.injEq, V.int.injEq, V.bl.injEq, V.ref.injEq, HO.ins.injEq, HO.lst.injEq, List.cons.injEq, and_true, true_and, and_assoc, exists_and_left, exists_eq_left', exists_eq_left, exists_eq_right, Nat.reduceSub, Nat.zero_add, Nat.reduceAdd, Nat.reduceLT, decide_eq_true_eq, decide_true, decide_false, Bool.false_eq_true, if_true, if_false, ite_true, ite_false, nox_K, cxOf_K, hp, upd_same, cReader.cl, cReader.n_numbers, cReader.n_at, lk_Reader_numbers, lk_Reader_at, pn_Reader_numbers, pn_Reader_at, pu_Reader_numbers, pu_Reader_at, no_Reader_is_done, no_Reader_take_number, no_Reader_take_row]
    refine q _ ⟨dx, upd_same⟩ (But.upd.trans But.upd)
theorem ok_is_done (T : Txt mg) (cReader : IsReader K mg cR) (D : Mth K "is_done" "Reader.is_done" cR s_Reader_is_done ["self"]) : IsM P w K mg base 1 cR "is_done" ["self"] (spIsDone K cR) := by
  refine IsM.by D fun f fd F => F.ok sc_Reader_is_done (fun vs H Q E h => ?_) (fun cdv A outer s H vs Q E hr h => ?_)
  · obtain ⟨_, _, _, _, rfl, _⟩ := h
    rfl
  · obtain ⟨r, a, ns, k, rfl, ⟨dx, hp⟩, ha, q⟩ := h
    refine ⟨_, (pss_one (ps_ret (pe_cmpR op_ge (pe_fld (pv 0) rfl) (pe_callB call_len_seq (by rfl) T.n_len PySem.boot_len (pa_cons (pe_fld (pv 0) rfl) pa_nil)) (nomark _)))), ?_⟩
    simp only [tSeq, tAsg, tOp, tUn, tVar, tC, rI0, rI, rU, rEq, rNe, gName, tIfS, tTest, tB, tAnd, tOr, tNot, tAndV, tOrV, tNotV, tChain, tRet, tRetN, tNext, tDrop, tCall, tCons, tNil, tLst, tFld, sFld, scal_int, L2.start, List.map_cons, List.map_nil, List.length_cons, List.length_nil, List.replicate_succ, List.replicate_zero, List.cons_append, List.nil_append, List.append_nil, List.getElem?_cons_zero, List.getElem?_cons_succ, List.set_cons_zero, List.set_cons_succ, Option.some.injEq, V.int.injEq, V.bl.injEq, V.ref.injEq, HO.ins.injEq, HO.lst.injEq, List.cons.injEq, and_true, true_and, and_assoc, exists_and_left, exists_eq_left', exists_eq_left, exists_eq_right, Nat.reduceSub, Nat.zero_add, Nat.reduceAdd, Nat.reduceLT, decide_eq_true_eq, decide_true, decide_false, Bool.false_eq_true, if_true, if_false, ite_true, ite_false, nox_K, cxOf_K, hp, tCB, cReader.cl, cReader.n_numbers, cReader.n_at, lk_Reader_numbers, lk_Reader_at, pn_Reader_numbers, pn_Reader_at, pu_Reader_numbers, pu_Reader_at, no_Reader_is_done, no_Reader_take_number, no_Reader_take_row]
    refine ⟨_, .inl ha, ?_⟩
    have e : decide (((intV ns).length : Int) ≤ (k : Int)) = decide (ns.length ≤ k) := by
      rw [List.length_map]
      exact decide_eq_decide.mpr Int.ofNat_le
    rw [← e] at q
    exact q
theorem ok_take_number (cReader : IsReader K mg cR) (D : Mth K "take_number" "Reader.take_number" cR s_Reader_take_number ["self"]) : IsM P w K mg base 1 cR "take_number" ["self"] (spTakeNumber K cR) := by
  refine IsM.by D fun f fd F => F.ok sc_Reader_take_number (fun vs H Q E h => ?_) (fun cdv A outer s H vs Q E hr h => ?_)
  · obtain ⟨_, _, _, _, _, rfl, _⟩ := h
    rfl
  · obtain ⟨r, a, ns, k, n, rfl, ⟨dx, hp⟩, ha, hk, q⟩ := h
    refine ⟨_, (pss_cons (ps_set (i := 1) sc_Reader_take_number.nd rfl (Or.inl rfl) (pe_ix ix_list (pe_fld (pv 0) rfl) (pe_fld (pv 0) rfl) (fun _ _ => rfl)))
    (pss_cons (ps_fld (pv 0) (pe_op op_add (pe_fld (pv 0) rfl) pe_int) rfl)
    (pss_one (ps_ret (pv 1))))), ?_⟩
    simp only [tSeq, tAsg, tOp, tUn, tVar, tC, rI0, rI, rU, rEq, rNe, gName, tIfS, tTest, tB, tAnd, tOr, tNot, tAndV, tOrV, tNotV, tChain, tRet, tRetN, tNext, tDrop, tCall, tCons, tNil, tLst, tFld, sFld, scal_int, L2.start, List.map_cons, List.map_nil, List.length_cons, List.length_nil, List.replicate_succ, List.replicate_zero, List.cons_append, List.nil_append, List.append_nil, List.getElem?_cons_zero, List.getElem?_cons_succ, List.set_cons_zero, List.set_cons_succ, Option.some.injEq, V.int.injEq, V.bl.injEq, V.ref.injEq, HO.ins.injEq, HO.lst.injEq, List.cons.injEq, and_true, true_and, and_assoc, exists_and_left, exists_eq_left', exists_eq_left, exists_eq_right, Nat.reduceSub, Nat.zero_add, Nat.reduceAdd, Nat.reduceLT, decide_eq_true_eq, decide_true, decide_false, Bool.false_eq_true, if_true, if_false, ite_true, ite_false, nox_K, cxOf_K, hp, cReader.cl, cReader.n_numbers, cReader.n_at, lk_Reader_numbers, lk_Reader_at, pn_Reader_numbers, pn_Reader_at, pu_Reader_numbers, pu_Reader_at, no_Reader_is_done, no_Reader_take_number, no_Reader_take_row]
    refine ixl (j := k) ha (v := .int n) (by rw [List.getElem?_map, hk]; rfl) ?_
    simp only [tSeq, tAsg, tOp, tUn, tVar, tC, rI0, rI, rU, rEq, rNe, gName, tIfS, tTest, tB, tAnd, tOr, tNot, tAndV, tOrV, tNotV, tChain, tRet, tRetN, tNext, tDrop, tCall, tCons, tNil, tLst, tFld, sFld, scal_int, L2.start, List.map_cons, List.map_nil, List.length_cons, List.length_nil, List.replicate_succ, List.replicate_zero, List.cons_append, List.nil_append, List.append_nil, List.getElem?_cons_zero, List.getElem?_cons_succ, List.set_cons_zero, List.set_cons_succ, Option.some.injEq, V.int.injEq, V.bl.injEq, V.ref.injEq, HO.ins.injEq, HO.lst.injEq, List.cons.injEq, and_true, true_and, and_assoc, exists_and_left, exists_eq_left', exists_eq_left, exists_eq_right, Nat.reduceSub, Nat.zero_add, Nat.reduceAdd, Nat.reduceLT, decide_eq_true_eq, decide_true, decide_false, Bool.false_eq_true, if_true, if_false, ite_true, ite_false, nox_K, cxOf_K, hp, cReader.cl, cReader.n_numbers, cReader.n_at, lk_Reader_numbers, lk_Reader_at, pn_Reader_numbers, pn_Reader_at, pu_Reader_numbers, pu_Reader_at, no_Reader_is_done, no_Reader_take_number, no_Reader_take_row]
    exact q _ ⟨dx, upd_same⟩ But.upd
theorem ok_take_row (cReader : IsReader K mg cR) (I_take_number : IsM P w K mg base 1 cR "take_number" ["self"] (spTakeNumber K cR)) (D : Mth K "take_row" "Reader.take_row" cR s_Reader_take_row ["self"]) : IsM P w K mg base 2 cR "take_row" ["self"] (spTakeRow K cR) := by
  refine IsM.by D fun f fd F => F.ok sc_Reader_take_row (fun vs H Q E h => ?_) (fun cdv A outer s H vs Q E hr h => ?_)
  · obtain ⟨_, _, _, _, _, _, rfl, _⟩ := h
    rfl
  · obtain ⟨r, a, ns, k, x, t, rfl, ⟨dx, hp⟩, ha, hk, q⟩ := h
    refine ⟨_, (pss_cons (ps_set (i := 1) sc_Reader_take_row.nd rfl (Or.inl rfl) (pe_mM0 (pv 0) cReader.cl I_take_number (hr.mono (by decide))))
    (pss_cons (ps_set (i := 2) sc_Reader_take_row.nd rfl (Or.inl rfl) (pe_slice sl_list (pe_fld (pv 0) rfl) (po_some (pe_fld (pv 0) rfl)) (po_some (pe_op op_add (pe_fld (pv 0) rfl) (pv 1)))))
    (pss_cons (ps_fld (pv 0) (pe_op op_add (pe_fld (pv 0) rfl) (pv 1)) rfl)
    (pss_one (ps_ret (pv 2)))))), ?_⟩
    simp only [tSeq, tAsg, tOp, tUn, tVar, tC, rI0, rI, rU, rEq, rNe, gName, tIfS, tTest, tB, tAnd, tOr, tNot, tAndV, tOrV, tNotV, tChain, tRet, tRetN, tNext, tDrop, tCall, tCons, tNil, tLst, tFld, sFld, scal_int, L2.start, List.map_cons, List.map_nil, List.length_cons, List.length_nil, List.replicate_succ, List.replicate_zero, List.cons_append, List.nil_append, List.append_nil, List.getElem?_cons_zero, List.getElem?_cons_succ, List.set_cons_zero, List.set_cons_succ, Option.some.injEq, V.int.injEq, V.bl.injEq, V.ref.injEq, HO.ins.injEq, HO.lst.injEq, List.cons.injEq, and_true, true_and, and_assoc, exists_and_left, exists_eq_left', exists_eq_left, exists_eq_right, Nat.reduceSub, Nat.zero_add, Nat.reduceAdd, Nat.reduceLT, decide_eq_true_eq, decide_true, decide_false, Bool.false_eq_true, if_true, if_false, ite_true, ite_false, nox_K, cxOf_K, hp, tMeth, cReader.cl, cReader.n_numbers, cReader.n_at, lk_Reader_numbers, lk_Reader_at, pn_Reader_numbers, pn_Reader_at, pu_Reader_numbers, pu_Reader_at, no_Reader_is_done, no_Reader_take_number, no_Reader_take_row]
    have hk0 : ns[k]? = some (x.length : Int) := by
      have := congrArg (fun l : List Int => l[0]?) hk
      rw [show (ns.drop k)[0]? = ns[k + 0]? from List.getElem?_drop] at this
      exact this
    have hk1 : ns.drop (k + 1) = x ++ t := by
      rw [← List.drop_drop, hk]
      rfl
    refine ⟨r, a, ns, k, x.length, rfl, ⟨dx, hp⟩, ha, hk0, fun H1 hR b1 => ?_⟩
    have ha1 := sql_but b1 hp ha
    obtain ⟨dx1, hp1⟩ := hR
    simp only [tSeq, tAsg, tOp, tUn, tVar, tC, rI0, rI, rU, rEq, rNe, gName, tIfS, tTest, tB, tAnd, tOr, tNot, tAndV, tOrV, tNotV, tChain, tRet, tRetN, tNext, tDrop, tCall, tCons, tNil, tLst, tFld, sFld, scal_int, L2.start, List.map_cons, List.map_nil, List.length_cons, List.length_nil, List.replicate_succ, List.replicate_zero, List.cons_append, List.nil_append, List.append_nil, List.getElem?_cons_zero, List.getElem?_cons_succ, List.set_cons_zero, List.set_cons_succ, Option.some.injEq, V.int.injEq, V.bl.injEq, V.ref.injEq, HO.ins.injEq, HO.lst.injEq, List.cons.injEq, and_true, true_and, and_assoc, exists_and_left, exists_eq_left', exists_eq_left, exists_eq_right, Nat.reduceSub, Nat.zero_add, Nat.reduceAdd, Nat.reduceLT, decide_eq_true_eq, decide_true, decide_false, Bool.false_eq_true, if_true, if_false, ite_true, ite_false, nox_K, cxOf_K, hp1, tSl, tPart, rSlL, cReader.cl, cReader.n_numbers, cReader.n_at, lk_Reader_numbers, lk_Reader_at, pn_Reader_numbers, pn_Reader_at, pu_Reader_numbers, pu_Reader_at, no_Reader_is_done, no_Reader_take_number, no_Reader_take_row]
    refine ⟨intV ns, ha1, fun c nc => ?_⟩
    have nrc : r ≠ c := ne_of_none hp1 nc
    have hp2 : upd H1 c (.lst (cutV (intV ns) (some ((k + 1 : Nat) : Int)) (some (((k + 1 : Nat) : Int) + (x.length : Int))))) r = some (.ins cR dx1 [("numbers", .ref a), ("at", .int ((k + 1 : Nat) : Int))]) := by
      rw [upd_ne nrc]
      exact hp1
    simp only [tSeq, tAsg, tOp, tUn, tVar, tC, rI0, rI, rU, rEq, rNe, gName, tIfS, tTest, tB, tAnd, tOr, tNot, tAndV, tOrV, tNotV, tChain, tRet, tRetN, tNext, tDrop, tCall, tCons, tNil, tLst, tFld, sFld, scal_int, L2.start, List.map_cons, List.map_nil, List.length_cons, List.length_nil, List.replicate_succ, List.replicate_zero, List.cons_append, List.nil_append, List.append_nil, List.getElem?_cons_zero, List.getElem?_cons_succ, List.set_cons_zero, List.set_cons_succ, Option.some.injEq, V.int.injEq, V.bl.injEq, V.ref.injEq, HO.ins.injEq, HO.lst.injEq, List.cons.injEq, and_true, true_and, and_assoc, exists_and_left, exists_eq_left', exists_eq_left, exists_eq_right, Nat.reduceSub, Nat.zero_add, Nat.reduceAdd, Nat.reduceLT, decide_eq_true_eq, decide_true, decide_false, Bool.false_eq_true, if_true, if_false, ite_true, ite_false, nox_K, cxOf_K, hp2, cReader.cl, cReader.n_numbers, cReader.n_at, lk_Reader_numbers, lk_Reader_at, pn_Reader_numbers, pn_Reader_at, pu_Reader_numbers, pu_Reader_at, no_Reader_is_done, no_Reader_take_number, no_Reader_take_row]
    have e : ((k + 1 : Nat) : Int) + (x.length : Int) = ((k + 1 + x.length : Nat) : Int) := by omega
    refine q _ c ⟨dx1, ?_⟩ ((b1.trans (But.new nc)).trans But.upd) ?_ ?_
    · rw [upd_same, ← e]
    · cases hc : H c with
      | none => rfl
      | some o =>
        by_cases z : c = r
        · exact absurd z.symm nrc
        · have := b1 c o z hc
          rw [nc] at this
          cases this
    · rw [upd_ne (Ne.symm nrc), upd_same]
      exact congrArg (fun z => some (HO.lst z)) (cut_drop hk1 rfl)
theorem ok_read_given (T : Txt mg) (cReader : IsReader K mg cR) (I_take_number : IsM P w K mg base 1 cR "take_number" ["self"] (spTakeNumber K cR)) (I_take_row : IsM P w K mg base 2 cR "take_row" ["self"] (spTakeRow K cR))
    (D : Def K mg "read_given" s_read_given ["reader", "number_count", "row_count"]) : Is P w K mg base 3 "read_given" ["reader", "number_count", "row_count"] (spReadGiven K cR) := by
  refine Is.by D fun f fd F => F.ok sc_read_given (fun vs H Q E h => ?_) (fun cdv A outer s H vs Q E hr h => ?_)
  · obtain ⟨_, _, _, _, _, _, _, rfl, _⟩ := h
    rfl
  · obtain ⟨r, a, ns, k, x, rows, t, rfl, hR, ha, hk, hx, hrows, q⟩ := h
    refine ⟨_, (pss_cons (ps_set (i := 3) sc_read_given.nd rfl (Or.inl rfl) (pe_lst pa_nil))
    (pss_cons (ps_while PassesOwn.never (pt_cmpR op_lt (pe_callB call_len_seq (by rfl) T.n_len PySem.boot_len (pa_cons (pv 3) pa_nil)) (pv 1) (nomark _)) (pss_one (ps_expr (pe_bm PySem.F.plainAttrs_list PySem.F.slot_list_append PySem.F.type_list_append mt_append (pv 3) (pa_cons (pe_mM0 (pv 0) cReader.cl I_take_number (hr.mono (by decide))) pa_nil)))))
    (pss_cons (ps_while PassesOwn.never (pt_cmpR op_lt (pe_callB call_len_seq (by rfl) T.n_len PySem.boot_len (pa_cons (pv 3) pa_nil)) (pe_op op_add (pv 1) (pv 2)) (nomark _)) (pss_one (ps_expr (pe_bm PySem.F.plainAttrs_list PySem.F.slot_list_append PySem.F.type_list_append mt_append (pv 3) (pa_cons (pe_mM0 (pv 0) cReader.cl I_take_row (hr.mono (by decide))) pa_nil)))))
    (pss_one (ps_ret (pv 3)))))), ?_⟩
    simp only [tSeq, tAsg, tOp, tUn, tVar, tC, rI0, rI, rU, rEq, rNe, gName, tIfS, tTest, tB, tAnd, tOr, tNot, tAndV, tOrV, tNotV, tChain, tRet, tRetN, tNext, tDrop, tCall, tCons, tNil, tLst, tFld, sFld, scal_int, L2.start, List.map_cons, List.map_nil, List.length_cons, List.length_nil, List.replicate_succ, List.replicate_zero, List.cons_append, List.nil_append, List.append_nil, List.getElem?_cons_zero, List.getElem?_cons_succ, List.set_cons_zero, List.set_cons_succ, Option.some.injEq, V.int.injEq, V.bl.injEq, V.ref.injEq, HO.ins.injEq, HO.lst.injEq, List.cons.injEq, and_true, true_and, and_assoc, exists_and_left, exists_eq_left', exists_eq_left, exists_eq_right, Nat.reduceSub, Nat.zero_add, Nat.reduceAdd, Nat.reduceLT, decide_eq_true_eq, decide_true, decide_false, Bool.false_eq_true, if_true, if_false, ite_true, ite_false, nox_K, cxOf_K]
    refine ⟨Nat.zero_le _, fun G nG => ?_⟩
    have hr0 := hR
    obtain ⟨dx, hp⟩ := hr0
    have nrG : r ≠ G := ne_of_none hp nG
    obtain ⟨W1, hW1⟩ : ∃ W : Nat → L2.St → Hp → Prop, W = fun m σ H' => ∃ i, i ≤ x.length ∧ m = x.length - i ∧ σ = [some (V.ref r), some (V.int x.length), some (V.int rows.length), some (V.ref G)] ∧ ReaderAt cR H' r a (k + i) ∧ But r H H' ∧ H' G = some (.lst (intV (x.take i))) := ⟨_, rfl⟩
    refine ⟨W1, ⟨x.length, by rw [hW1]; exact ⟨0, Nat.zero_le _, rfl, rfl, ⟨dx, by rw [upd_ne nrG]; exact hp⟩, But.new nG, upd_same⟩⟩, fun m σ H' h => ?_⟩
    rw [hW1] at h
    obtain ⟨i, hi, rfl, rfl, hR', bt, hG⟩ := h
    simp only [tSeq, tAsg, tOp, tUn, tVar, tC, rI0, rI, rU, rEq, rNe, gName, tIfS, tTest, tB, tAnd, tOr, tNot, tAndV, tOrV, tNotV, tChain, tRet, tRetN, tNext, tDrop, tCall, tCons, tNil, tLst, tFld, sFld, scal_int, L2.start, List.map_cons, List.map_nil, List.length_cons, List.length_nil, List.replicate_succ, List.replicate_zero, List.cons_append, List.nil_append, List.append_nil, List.getElem?_cons_zero, List.getElem?_cons_succ, List.set_cons_zero, List.set_cons_succ, Option.some.injEq, V.int.injEq, V.bl.injEq, V.ref.injEq, HO.ins.injEq, HO.lst.injEq, List.cons.injEq, and_true, true_and, and_assoc, exists_and_left, exists_eq_left', exists_eq_left, exists_eq_right, Nat.reduceSub, Nat.zero_add, Nat.reduceAdd, Nat.reduceLT, decide_eq_true_eq, decide_true, decide_false, Bool.false_eq_true, if_true, if_false, ite_true, ite_false, nox_K, cxOf_K, tCB]
    refine ⟨_, .inl (.inl (.inl hG)), ?_⟩
    have el : (intV (x.take i)).length = i := by
      rw [List.length_map, List.length_take]
      omega
    rw [el]
    by_cases hlt : i < x.length
    · rw [if_pos (Int.ofNat_lt.mpr hlt)]
      obtain ⟨dx', hp'⟩ := hR'
      simp only [tSeq, tAsg, tOp, tUn, tVar, tC, rI0, rI, rU, rEq, rNe, gName, tIfS, tTest, tB, tAnd, tOr, tNot, tAndV, tOrV, tNotV, tChain, tRet, tRetN, tNext, tDrop, tCall, tCons, tNil, tLst, tFld, sFld, scal_int, L2.start, List.map_cons, List.map_nil, List.length_cons, List.length_nil, List.replicate_succ, List.replicate_zero, List.cons_append, List.nil_append, List.append_nil, List.getElem?_cons_zero, List.getElem?_cons_succ, List.set_cons_zero, List.set_cons_succ, Option.some.injEq, V.int.injEq, V.bl.injEq, V.ref.injEq, HO.ins.injEq, HO.lst.injEq, List.cons.injEq, and_true, true_and, and_assoc, exists_and_left, exists_eq_left', exists_eq_left, exists_eq_right, Nat.reduceSub, Nat.zero_add, Nat.reduceAdd, Nat.reduceLT, decide_eq_true_eq, decide_true, decide_false, Bool.false_eq_true, if_true, if_false, ite_true, ite_false, nox_K, cxOf_K, tBM, tMeth, hp', rAppend, cReader.cl, cReader.n_numbers, cReader.n_at, lk_Reader_numbers, lk_Reader_at, pn_Reader_numbers, pn_Reader_at, pu_Reader_numbers, pu_Reader_at, no_Reader_is_done, no_Reader_take_number, no_Reader_take_row]
      refine ⟨W1 (x.length - (i + 1)), fun σ' H1 h => ⟨_, by omega, h⟩, .inl ⟨rfl, _, .inl (.inl hG)⟩, r, a, ns, k + i, x[i], rfl, ⟨dx', hp'⟩, sql_but bt hp ha, ?_, fun H1 hR1 b1 => ?_⟩
      · have := congrArg (fun l : List Int => l[i]?) hk
        rw [show (ns.drop k)[i]? = ns[k + i]? from List.getElem?_drop, show (x ++ (PyFlat.putRows rows ++ t))[i]? = x[i]? from List.getElem?_append_left hlt, List.getElem?_eq_getElem hlt] at this
        exact this
      · have hG1 := b1 _ _ (Ne.symm nrG) hG
        refine ⟨_, hG1, len_line (n := 10) (by rw [el]; omega), ?_⟩
        rw [hW1]
        obtain ⟨dx1, hp1⟩ := hR1
        refine ⟨i + 1, hlt, rfl, rfl, ⟨dx1, by rw [upd_ne nrG]; exact hp1⟩, but_upd nG (bt.trans b1), ?_⟩
        rw [upd_same, take_one (List.getElem?_eq_getElem hlt), intV, intV, List.map_append]
        rfl
    · rw [if_neg fun z => hlt (Int.ofNat_lt.mp z)]
      obtain rfl : i = x.length := by omega
      rw [List.take_of_length_le (Nat.le_refl _)] at hG
      obtain ⟨W2, hW2⟩ : ∃ W : Nat → L2.St → Hp → Prop, W = fun m σ H1 => ∃ j zs, j ≤ rows.length ∧ m = rows.length - j ∧ σ = [some (V.ref r), some (V.int x.length), some (V.int rows.length), some (V.ref G)] ∧ zs.map (·.2) = rows.take j ∧ RowsAt H1 zs ∧ (∀ z ∈ zs, z.1 ≠ G) ∧ ReaderAt cR H1 r a (k + x.length + (PyFlat.putRows (rows.take j)).length) ∧ But r H H1 ∧ H1 G = some (.lst (intV x ++ zs.map fun z => V.ref z.1)) := ⟨_, rfl⟩
      refine ⟨W2, ⟨rows.length, by rw [hW2]; exact ⟨0, [], Nat.zero_le _, rfl, rfl, rfl, fun z h => absurd h (List.not_mem_nil), fun z h => absurd h (List.not_mem_nil), hR', bt, by rw [hG]; exact congrArg (fun z => some (HO.lst z)) (List.append_nil _).symm⟩⟩, fun m σ H1 h => ?_⟩
      rw [hW2] at h
      obtain ⟨j, zs, hj, rfl, rfl, hzs, hrows1, nzs, hR1, bt1, hG1⟩ := h
      simp only [tSeq, tAsg, tOp, tUn, tVar, tC, rI0, rI, rU, rEq, rNe, gName, tIfS, tTest, tB, tAnd, tOr, tNot, tAndV, tOrV, tNotV, tChain, tRet, tRetN, tNext, tDrop, tCall, tCons, tNil, tLst, tFld, sFld, scal_int, L2.start, List.map_cons, List.map_nil, List.length_cons, List.length_nil, List.replicate_succ, List.replicate_zero, List.cons_append, List.nil_append, List.append_nil, List.getElem?_cons_zero, List.getElem?_cons_succ, List.set_cons_zero, List.set_cons_succ, Option.some.injEq, V.int.injEq, V.bl.injEq, V.ref.injEq, HO.ins.injEq, HO.lst.injEq, List.cons.injEq, and_true, true_and, and_assoc, exists_and_left, exists_eq_left', exists_eq_left, exists_eq_right, Nat.reduceSub, Nat.zero_add, Nat.reduceAdd, Nat.reduceLT, decide_eq_true_eq, decide_true, decide_false, Bool.false_eq_true, if_true, if_false, ite_true, ite_false, nox_K, cxOf_K, tCB]
      refine ⟨_, .inl (.inl (.inl hG1)), ?_⟩
      have ezl : zs.length = j := by
        have := congrArg List.length hzs
        rw [List.length_map, List.length_take] at this
        omega
      have el : (intV x ++ zs.map fun z => V.ref z.1).length = x.length + j := by
        rw [List.length_append, List.length_map, List.length_map, ezl]
      rw [el]
      by_cases hlt : j < rows.length
      · rw [if_pos (by omega)]
        obtain ⟨dx', hp'⟩ := hR1
        simp only [tSeq, tAsg, tOp, tUn, tVar, tC, rI0, rI, rU, rEq, rNe, gName, tIfS, tTest, tB, tAnd, tOr, tNot, tAndV, tOrV, tNotV, tChain, tRet, tRetN, tNext, tDrop, tCall, tCons, tNil, tLst, tFld, sFld, scal_int, L2.start, List.map_cons, List.map_nil, List.length_cons, List.length_nil, List.replicate_succ, List.replicate_zero, List.cons_append, List.nil_append, List.append_nil, List.getElem?_cons_zero, List.getElem?_cons_succ, List.set_cons_zero, List.set_cons_succ, Option.some.injEq, V.int.injEq, V.bl.injEq, V.ref.injEq, HO.ins.injEq, HO.lst.injEq, List.cons.injEq, and_true, true_and, and_assoc, exists_and_left, exists_eq_left', exists_eq_left, exists_eq_right, Nat.reduceSub, Nat.zero_add, Nat.reduceAdd, Nat.reduceLT, decide_eq_true_eq, decide_true, decide_false, Bool.false_eq_true, if_true, if_false, ite_true, ite_false, nox_K, cxOf_K, tBM, tMeth, hp', rAppend, cReader.cl, cReader.n_numbers, cReader.n_at, lk_Reader_numbers, lk_Reader_at, pn_Reader_numbers, pn_Reader_at, pu_Reader_numbers, pu_Reader_at, no_Reader_is_done, no_Reader_take_number, no_Reader_take_row]
        have hrow := rows_at hk hlt
        refine ⟨W2 (rows.length - (j + 1)), fun σ' H1 h => ⟨_, by omega, h⟩, .inl ⟨rfl, _, .inl (.inl hG1)⟩, r, a, ns, _, rows[j], _, rfl, ⟨dx', hp'⟩, sql_but bt1 hp ha, hrow, fun H2 c hR2 b2 nc hc => ?_⟩
        have hG2 := b2 _ _ (Ne.symm nrG) hG1
        have ncG : c ≠ G := (ne_of_none hG1 nc).symm
        refine ⟨_, hG2, len_line (n := 20) (by rw [el]; omega), ?_⟩
        rw [hW2]
        obtain ⟨dx2, hp2⟩ := hR2
        refine ⟨j + 1, zs ++ [(c, rows[j])], hlt, rfl, rfl, ?_, fun z hz => ?_, fun z hz => ?_, ⟨dx2, ?_⟩, but_upd nG (bt1.trans b2), ?_⟩
        · rw [List.map_append, hzs, take_one (List.getElem?_eq_getElem hlt)]
          rfl
        · rcases List.mem_append.mp hz with y | y
          · rw [upd_ne (nzs z y)]
            refine b2 _ _ (fun e => ?_) (hrows1 z y)
            have := hrows1 z y
            rw [e, hp'] at this
            cases this
          · rw [List.mem_singleton.mp y, upd_ne ncG]
            exact hc
        · rcases List.mem_append.mp hz with y | y
          · exact nzs z y
          · rw [List.mem_singleton.mp y]
            exact ncG
        · rw [upd_ne nrG, hp2, putRows_take hlt]
          have e : k + x.length + (PyFlat.putRows (rows.take j)).length + 1 + rows[j].length = k + x.length + ((PyFlat.putRows (rows.take j)).length + 1 + rows[j].length) := by omega
          rw [e]
        · rw [upd_same, List.map_append, List.append_assoc]
          rfl
      · rw [if_neg (by omega)]
        obtain rfl : j = rows.length := by omega
        rw [List.take_of_length_le (Nat.le_refl _)] at hzs hR1
        exact q H1 G zs hR1 bt1 hG1 hzs hrows1
end
end Pc
namespace Pc
open PySem PySem.Spec PyProof.Rows L2 PcR PcM
open Cl02 (Turn Decree State Ans)
/-! ### places -/
theorem lk_Kept_place {x0 x1 : V} : List.lookup ("place" : Str) ([("place", x0), ("shown", x1)] : List (Str × V)) = some x0 := lkh
theorem pn_Kept_place { v : V} : putF ("place" : Str) v ([] : List (Str × V)) = ([("place", v)] : List (Str × V)) := rfl
theorem pu_Kept_place {x0 x1 v : V} : putF ("place" : Str) v ([("place", x0), ("shown", x1)] : List (Str × V)) = ([("place", v), ("shown", x1)] : List (Str × V)) := puth
theorem lk_Kept_shown {x0 x1 : V} : List.lookup ("shown" : Str) ([("place", x0), ("shown", x1)] : List (Str × V)) = some x1 := (lkp (show (("shown" : Str) == "place") = false by decide +kernel)).trans (lkh)
theorem pn_Kept_shown {x0 v : V} : putF ("shown" : Str) v ([("place", x0)] : List (Str × V)) = ([("place", x0), ("shown", v)] : List (Str × V)) := (putp (show ¬ ("place" : Str) = "shown" by decide +kernel)).trans (congrArg _ (rfl))
theorem pu_Kept_shown {x0 x1 v : V} : putF ("shown" : Str) v ([("place", x0), ("shown", x1)] : List (Str × V)) = ([("place", x0), ("shown", v)] : List (Str × V)) := (putp (show ¬ ("place" : Str) = "shown" by decide +kernel)).trans (congrArg _ (puth))
/-- the class Kept -/
structure IsKept (K : PySem.W.Frag) (mg : Str → Option Value) (C : Addr) : Prop where
  cl : Cls K C
  at_ : mg "Kept" = some (.ref C)
  n_place : NoAttr K C "place"
  n_shown : NoAttr K C "shown"
theorem lk_Atlas_places {x0 x1 : V} : List.lookup ("places" : Str) ([("places", x0), ("kept", x1)] : List (Str × V)) = some x0 := lkh
theorem pn_Atlas_places { v : V} : putF ("places" : Str) v ([] : List (Str × V)) = ([("places", v)] : List (Str × V)) := rfl
theorem pu_Atlas_places {x0 x1 v : V} : putF ("places" : Str) v ([("places", x0), ("kept", x1)] : List (Str × V)) = ([("places", v), ("kept", x1)] : List (Str × V)) := puth
theorem lk_Atlas_kept {x0 x1 : V} : List.lookup ("kept" : Str) ([("places", x0), ("kept", x1)] : List (Str × V)) = some x1 := (lkp (show (("kept" : Str) == "places") = false by decide +kernel)).trans (lkh)
theorem pn_Atlas_kept {x0 v : V} : putF ("kept" : Str) v ([("places", x0)] : List (Str × V)) = ([("places", x0), ("kept", v)] : List (Str × V)) := (putp (show ¬ ("places" : Str) = "kept" by decide +kernel)).trans (congrArg _ (rfl))
theorem pu_Atlas_kept {x0 x1 v : V} : putF ("kept" : Str) v ([("places", x0), ("kept", x1)] : List (Str × V)) = ([("places", x0), ("kept", v)] : List (Str × V)) := (putp (show ¬ ("places" : Str) = "kept" by decide +kernel)).trans (congrArg _ (puth))
/-- the class Atlas -/
structure IsAtlas (K : PySem.W.Frag) (mg : Str → Option Value) (C : Addr) : Prop where
  cl : Cls K C
  at_ : mg "Atlas" = some (.ref C)
  n_places : NoAttr K C "places"
  n_kept : NoAttr K C "kept"
/-- where the classes stand, and the table of put_decree's code -/
structure Ads where
  T : Addr
  S : Addr
  D : Addr
  P : Addr
  A : Addr
  Kp : Addr
  Tb : Addr
/-- all is kept but what stands at the addresses told, and tables -/
def Fr (own : List Addr) (H H' : Hp) : Prop := ∀ b o, b ∉ own → H b = some o → (∀ ps, o ≠ .tbl ps) → H' b = some o
/-- what is kept, at a; zs: the places -/
def KeptAt (k : Ads) (H : Hp) (zs : List (Addr × List Decree)) (a : Addr) (q : Cl02.Kept) : Prop := ∃ dy pz, H a = some (.ins k.Kp dy [("place", .ref pz), ("shown", .int q.shown)]) ∧ (zs.map (·.1))[q.place]? = some pz
/-- all that is kept, its list at M -/
def KeptL (k : Ads) (H : Hp) (M : Addr) (zs : List (Addr × List Decree)) (ks : List Cl02.Kept) : Prop := ∃ ys : List (Addr × Cl02.Kept), H M = some (.lst (ys.map fun y => V.ref y.1)) ∧ ys.map (·.2) = ks ∧ ∀ y ∈ ys, KeptAt k H zs y.1 y.2
/-- no thing that is kept stands at p -/
def NotK (H : Hp) (p : Addr) : Prop := ∀ C dy a b, H p ≠ some (.ins C dy [("place", a), ("shown", b)])
/-- the atlas at A stands for s; zs: its places, by their addresses -/
structure AtlasAt (k : Ads) (H : Hp) (A dx L M : Addr) (zs : List (Addr × List Decree)) (s : State) : Prop where
  ins : H A = some (.ins k.A dx [("places", .ref L), ("kept", .ref M)])
  lst : H L = some (.lst (zs.map fun z => V.ref z.1))
  nd : (zs.map (·.1)).Nodup
  at_ : ∀ z ∈ zs, PlaceAt k.T k.S k.D k.P H z.1 z.2
  eq : zs.map (·.2) = s.places
  tabs : LamX.Tabs [(k.Tb, lamName)] H
  ne2 : L ≠ M
  kept : KeptL k H M zs s.kept
/-- no list stands at r -/
def NotL (H : Hp) (r : Addr) : Prop := ∀ xs, H r ≠ some (.lst xs)
/-- what a call is to bring about: x, what stands then, and what is told -/
def Post (k : Ads) (H : Hp) (A dx L M : Addr) (zs : List (Addr × List Decree)) (x : State × Ans) (Q : VK) : Prop := ∀ (H' : Hp) (r : Addr) (zs' : List (Addr × List Decree)), AtlasAt k H' A dx L M zs' x.1 →
  (∀ z ∈ zs', z.1 ∈ zs.map (·.1) ∨ H z.1 = none) → Fr (L :: M :: zs.map (·.1)) H H' → NotL H r → H' r = some (.lst (intV x.2)) → Q (.ref r) H'
section
variable {k : Ads} {H H' : Hp} {A dx L M : Addr} {zs : List (Addr × List Decree)} {s : State}
theorem KeptL.same {ks : List Cl02.Kept} (e : Same H H') (h : KeptL k H M zs ks) : KeptL k H' M zs ks := by
  obtain ⟨ys, h1, h2, h3⟩ := h
  refine ⟨ys, e _ _ h1, h2, fun y hy => ?_⟩
  obtain ⟨dy, pz, a, b⟩ := h3 y hy
  exact ⟨dy, pz, e _ _ a, b⟩
theorem KeptL.butT {p : Addr} {ks : List Cl02.Kept} (bt : ButT p H H') (nM : M ≠ p) (nk : NotK H p) (h : KeptL k H M zs ks) : KeptL k H' M zs ks := by
  obtain ⟨ys, h1, h2, h3⟩ := h
  refine ⟨ys, bt _ _ nM h1 fun _ q => (by cases q), h2, fun y hy => ?_⟩
  obtain ⟨dy, pz, a, b⟩ := h3 y hy
  exact ⟨dy, pz, bt _ _ (fun e => nk _ _ _ _ (e ▸ a)) a fun _ q => (by cases q), b⟩
theorem KeptL.moved {zs' : List (Addr × List Decree)} {ks : List Cl02.Kept} (e : ∀ (i : Nat) (p : Addr), (zs.map (·.1))[i]? = some p → (zs'.map (·.1))[i]? = some p) (h : KeptL k H M zs ks) : KeptL k H M zs' ks := by
  obtain ⟨ys, h1, h2, h3⟩ := h
  refine ⟨ys, h1, h2, fun y hy => ?_⟩
  obtain ⟨dy, pz, a, b⟩ := h3 y hy
  exact ⟨dy, pz, a, e _ _ b⟩
theorem notK_lst {p : Addr} {xs : List V} (h : H p = some (.lst xs)) : NotK H p := fun C dy a b q => by
  rw [h] at q
  cases q
theorem notK_one {p C dx : Addr} {f : Str × V} (h : H p = some (.ins C dx [f])) : NotK H p := fun C dy a b q => by
  rw [h] at q
  cases q
theorem AtlasAt.same (h : AtlasAt k H A dx L M zs s) (e : Same H H') : AtlasAt k H' A dx L M zs s := ⟨e _ _ h.ins, e _ _ h.lst, h.nd, fun z hz => (h.at_ z hz).same e, h.eq, h.tabs.ext e, h.ne2, h.kept.same e⟩
theorem same_notL {r : Addr} (e : Same H H') (n : H' r = none) : NotL H r := fun xs h => by
  rw [e _ _ h] at n
  cases n
theorem Post.stay {H1 : Hp} {a : Ans} {r : Addr} {o : HO} {Q : VK} (q : Post k H A dx L M zs (s, a) Q) (h : AtlasAt k H A dx L M zs s) (e : Same H H1) (nr : H1 r = none) (ho : o = .lst (intV a)) : Q (.ref r) (upd H1 r o) :=
  q _ r zs ((h.same e).same (same_new nr)) (fun z hz => .inl (List.mem_map_of_mem hz)) (fun b o _ hb _ => same_new nr _ _ (e b o hb)) (same_notL e nr) (by rw [upd_same, ho])
theorem AtlasAt.len (h : AtlasAt k H A dx L M zs s) : zs.length = s.places.length := by
  rw [← h.eq, List.length_map]
theorem AtlasAt.get (h : AtlasAt k H A dx L M zs s) {p : Nat} (hp : p < s.places.length) : ∃ z, zs[p]? = some z ∧ z ∈ zs ∧ PlaceAt k.T k.S k.D k.P H z.1 z.2 ∧ s.places[p]? = some z.2 := by
  have hz : p < zs.length := by
    rw [h.len]
    exact hp
  refine ⟨zs[p], List.getElem?_eq_getElem hz, List.getElem_mem hz, h.at_ _ (List.getElem_mem hz), ?_⟩
  rw [← h.eq, List.getElem?_map, List.getElem?_eq_getElem hz]
  rfl
theorem placeOf_none {p : Nat} {f : List Decree → State × Ans} (hp : ¬ p < s.places.length) : Cl02.placeOf s p f = (s, [-3]) := by
  unfold Cl02.placeOf
  rw [List.getElem?_eq_none (Nat.le_of_not_lt hp)]
theorem placeOf_some {p : Nat} {x : List Decree} {f : List Decree → State × Ans} (e : s.places[p]? = some x) : Cl02.placeOf s p f = f x := by
  unfold Cl02.placeOf
  rw [e]
theorem set_fst {i : Nat} {z : Addr × List Decree} (hi : zs[i]? = some z) (ds : List Decree) : (zs.set i (z.1, ds)).map (·.1) = zs.map (·.1) := by
  rw [List.map_set]
  refine List.ext_getElem? fun _ => ?_
  rw [List.getElem?_set]
  split
  · rename_i e
    subst e
    split
    · rw [List.getElem?_map, hi]
      rfl
    · rename_i hl
      rw [List.getElem?_eq_none (Nat.le_of_not_lt hl)]
  · rfl
/-- one place is made anew -/
theorem AtlasAt.set (h : AtlasAt k H A dx L M zs s) (ok : OkS s) {i : Nat} {z : Addr × List Decree} (hi : zs[i]? = some z) {ds : List Decree} (hp : PlaceAt k.T k.S k.D k.P H' z.1 ds) (bt : ButT z.1 H H') (tb : LamX.Tabs [(k.Tb, lamName)] H') :
    AtlasAt k H' A dx L M (zs.set i (z.1, ds)) { s with places := s.places.set i ds } := by
  have hzm := List.mem_of_getElem? hi
  obtain ⟨dy, l, ys, h1, h2, h3, h4⟩ := h.at_ z hzm
  have lo : Loose H z.1 := loose_ins h1 (by show 1 ≤ 2; decide)
  have e1 := set_fst hi ds
  have e2 : (zs.set i (z.1, ds)).map (fun z => V.ref z.1) = zs.map fun z => V.ref z.1 := by
    have := congrArg (List.map V.ref) e1
    rw [List.map_map, List.map_map] at this
    exact this
  have nMz : M ≠ z.1 := fun e => by
    obtain ⟨_, q, _⟩ := h.kept
    rw [e, h1] at q
    cases q
  refine ⟨bt _ _ ?_ h.ins fun _ q => (by cases q), ?_, by rw [e1]; exact h.nd, fun y hy => ?_, ?_, tb, h.ne2, (h.kept.butT bt nMz (notK_one h1)).moved fun j p q => by rw [e1]; exact q⟩
  · intro e
    have q := h.ins
    rw [e, h1] at q
    injection q with q
    injection q with _ _ q
    injection q with q
    injection q with q
    exact absurd q (by decide +kernel)
  · rw [e2]
    refine bt _ _ ?_ h.lst fun _ q => (by cases q)
    intro e
    have q := h.lst
    rw [e, h1] at q
    cases q
  · obtain ⟨j, hj⟩ := List.getElem?_of_mem hy
    rw [List.getElem?_set] at hj
    split at hj
    · split at hj
      · cases hj
        exact hp
      · cases hj
    · rename_i nij
      have hym := List.mem_of_getElem? hj
      refine PlaceAt.butT bt lo (fun e => nij ?_) ?_ (h.at_ y hym)
      · have li := (List.getElem?_eq_some_iff.mp hi).1
        refine (List.getElem?_inj (by rw [List.length_map]; exact li) h.nd).mp ?_
        rw [List.getElem?_map, List.getElem?_map, hi, hj]
        exact congrArg some e.symm
      · have okp := ok.places y.2 (by rw [← h.eq]; exact List.mem_map_of_mem hym)
        obtain ⟨d, r, e, _⟩ := okp.first
        rw [e]
        exact List.cons_ne_nil _ _
  · show _ = s.places.set i ds
    rw [List.map_set, h.eq]
theorem loose_places {p : Addr} (hl : H p = some (.lst (zs.map fun z => V.ref z.1))) (h : ∀ z ∈ zs, PlaceAt k.T k.S k.D k.P H z.1 z.2) : Loose H p := by
  refine ⟨fun C' dx' fs' h' => ?_, fun z r h' C' dx' fs' hz => ?_⟩
  · rw [hl] at h'
    cases h'
  · rw [hl] at h'
    cases zs with
    | nil => cases h'
    | cons y ys =>
      obtain ⟨dy, l, us, h1, _⟩ := h y (List.mem_cons_self ..)
      have e : z = y.1 := by
        injection h' with h'
        injection h' with h'
        injection h' with h' _
        injection h' with h'
        exact h'.symm
      rw [e, h1] at hz
      cases hz
      exact Nat.le_succ _
theorem AtlasAt.ne (h : AtlasAt k H A dx L M zs s) : A ≠ L := fun e => by
  have q := h.lst
  rw [← e, h.ins] at q
  cases q
theorem AtlasAt.neP (h : AtlasAt k H A dx L M zs s) {z : Addr × List Decree} (hz : z ∈ zs) : z.1 ≠ L := fun e => by
  obtain ⟨dy, l, us, h1, _⟩ := h.at_ z hz
  have q := h.lst
  rw [← e, h1] at q
  cases q
/-- one place more -/
theorem AtlasAt.add (h : AtlasAt k H A dx L M zs s) (ok : OkS s) {x : Addr} {ds : List Decree} (nx : H x = none) (s2 : Same H H') (hP : PlaceAt k.T k.S k.D k.P H' x ds) (hd : ds ≠ []) :
    AtlasAt k (upd H' L (.lst ((zs.map fun z => V.ref z.1) ++ [V.ref x]))) A dx L M (zs ++ [(x, ds)]) { s with places := s.places ++ [ds] } := by
  have h2 := h.same s2
  have lo : Loose H' L := loose_places h2.lst h2.at_
  have xL : x ≠ L := (ne_of_none h.lst nx).symm
  refine ⟨by rw [upd_ne h.ne]; exact h2.ins, by rw [upd_same, List.map_append]; rfl, ?_, fun y hy => ?_, ?_, tabs_but But.upd (fun ps q => ?_) (fun c n q => ?_) h2.tabs, h.ne2, (h2.kept.butT But.upd.t h.ne2.symm (notK_lst h2.lst)).moved fun j p q => by
    rw [List.map_append, List.getElem?_append_left (List.getElem?_eq_some_iff.mp q).1]
    exact q⟩
  · rw [List.map_append]
    refine List.nodup_append.mpr ⟨h.nd, List.pairwise_singleton _ _, fun a ha b hb e => ?_⟩
    obtain ⟨z, hz, rfl⟩ := List.mem_map.mp ha
    obtain ⟨dy, l, us, h1, _⟩ := h.at_ z hz
    rw [e, List.mem_singleton.mp hb, nx] at h1
    cases h1
  · rcases List.mem_append.mp hy with m | m
    · refine PlaceAt.butT But.upd.t lo (h.neP m) ?_ (h2.at_ y m)
      have okp := ok.places y.2 (by rw [← h.eq]; exact List.mem_map_of_mem m)
      obtain ⟨d, r, e, _⟩ := okp.first
      rw [e]
      exact List.cons_ne_nil _ _
    · rw [List.mem_singleton.mp m]
      exact PlaceAt.butT But.upd.t lo xL hd hP
  · show _ = s.places ++ [ds]
    rw [List.map_append, h.eq]
    rfl
  · rw [h2.lst] at q
    cases q
  · rw [h2.lst] at q
    unfold LamX.CodeO at q
    cases q
theorem frP {z : Addr × List Decree} (hz : z ∈ zs) (b : ButT z.1 H H') : Fr (L :: M :: zs.map (·.1)) H H' := fun c o n hc t => b c o (fun e => n (e ▸ List.mem_cons_of_mem _ (List.mem_cons_of_mem _ (List.mem_map_of_mem hz)))) hc t
theorem frOf {q : Addr} {own : List Addr} (m : q ∈ own) (b : ButT q H H') : Fr own H H' := fun c o n hc t => b c o (fun e => n (e ▸ m)) hc t
end
section
variable {s : State} {p : Nat} {d : Decree} {x : List Decree}
theorem decreed_none (hp : ¬ p < s.places.length) : Cl02.decreed s p d = (s, [-3]) := placeOf_none hp
theorem decreed_out (e : s.places[p]? = some x) (h : 52596000 ≤ d.from_ ∨ Cl02.isOffset d.offset = false) : Cl02.decreed s p d = (s, [-1]) := (placeOf_some e).trans (if_pos h)
theorem decreed_full (e : s.places[p]? = some x) (h : ¬ (52596000 ≤ d.from_ ∨ Cl02.isOffset d.offset = false)) (g : 8 ≤ x.length ∧ x.any (fun e => e.from_ == d.from_) = false) : Cl02.decreed s p d = (s, [-5]) := ((placeOf_some e).trans (if_neg h)).trans (if_pos g)
theorem decreed_put (e : s.places[p]? = some x) (h : ¬ (52596000 ≤ d.from_ ∨ Cl02.isOffset d.offset = false)) (g : ¬ (8 ≤ x.length ∧ x.any (fun e => e.from_ == d.from_) = false)) :
    Cl02.decreed s p d = ({ s with places := s.places.set p (Cl02.put d x) }, [((Cl02.put d x).length : Int)]) := ((placeOf_some e).trans (if_neg h)).trans (if_neg g)
end
/-! promises -/
def spAtlasInit (C : Addr) : Sp := fun vs H Q _ => ∃ (p dx : Addr), vs = [.ref p] ∧ H p = some (.ins C dx []) ∧ ∀ (H' : Hp) (L M : Addr), H L = none → H M = none → L ≠ M → H' p = some (.ins C dx [("places", .ref L), ("kept", .ref M)]) → H' L = some (.lst []) → H' M = some (.lst []) → But p H H' → Q .non H'
def spHasPlace (k : Ads) : Sp := fun vs H Q _ => ∃ A dx L M zs s, ∃ n : Nat, vs = [.ref A, .int n] ∧ AtlasAt k H A dx L M zs s ∧ Q (.bl (decide (n < s.places.length))) H
def spAddPlace (k : Ads) : Sp := fun vs H Q _ => ∃ A dx L M zs s, ∃ z : Int, vs = [.ref A, .int z] ∧ AtlasAt k H A dx L M zs s ∧ OkS s ∧ Post k H A dx L M zs (Cl02.step s (.place z)) Q
def spLayDown (k : Ads) : Sp := fun vs H Q _ => ∃ (p q : Addr) (ds : List Decree) (d : Decree), vs = [.ref p, .ref q] ∧ PlaceAt k.T k.S k.D k.P H p ds ∧ OkP ds ∧ DecAt k.T k.S k.D H q d ∧ LamX.Tabs [(k.Tb, lamName)] H ∧
  ((8 ≤ ds.length ∧ ds.any (fun e => e.from_ == d.from_) = false) → ∀ (H' : Hp) (r : Addr), Same H H' → H' r = none → Q (.ref r) (upd H' r (.lst (intV [-5])))) ∧
  (¬ (8 ≤ ds.length ∧ ds.any (fun e => e.from_ == d.from_) = false) → ∀ (H' : Hp) (r : Addr), PlaceAt k.T k.S k.D k.P H' p (Cl02.put d ds) → ButT p H H' → LamX.Tabs [(k.Tb, lamName)] H' → H' r = none → Q (.ref r) (upd H' r (.lst (intV [((Cl02.put d ds).length : Int)]))))
def spAddDecree (k : Ads) : Sp := fun vs H Q _ => ∃ A dx L M zs s, ∃ (p m : Nat) (z : Int), vs = [.ref A, .int p, .int m, .int z] ∧ AtlasAt k H A dx L M zs s ∧ OkS s ∧ Post k H A dx L M zs (Cl02.step s (.decree p m z)) Q
/-- whether a summer is told, as the document asks -/
def sumTold (x : Nat) (a b : List Nat) : Bool := match Cl02.turnOf a, Cl02.turnOf b with
  | some a, some b => decide (¬ (x = 0 ∨ 120 < x ∨ a.month = b.month))
  | _, _ => false
def spMakesSummer : Sp := fun vs H Q _ => ∃ (x : Nat) (p q : Addr) (a b : List Nat), vs = [.int x, .ref p, .ref q] ∧ H p = some (.lst (natV a)) ∧ H q = some (.lst (natV b)) ∧ ∀ H' : Hp, Same H H' → Q (.bl (sumTold x a b)) H'
def spAddSummer (k : Ads) : Sp := fun vs H Q _ => ∃ A dx L M zs s, ∃ (p m : Nat) (z : Int) (x : Nat) (pa pb : Addr) (a b : List Nat), vs = [.ref A, .int p, .int m, .int z, .int x, .ref pa, .ref pb] ∧ H pa = some (.lst (natV a)) ∧ H pb = some (.lst (natV b)) ∧ AtlasAt k H A dx L M zs s ∧ OkS s ∧ Post k H A dx L M zs (Cl02.step s (.summer p m z x a b)) Q
def spDrop (k : Ads) : Sp := fun vs H Q _ => ∃ A dx L M zs s, ∃ (p m : Nat), vs = [.ref A, .int p, .int m] ∧ AtlasAt k H A dx L M zs s ∧ OkS s ∧ Post k H A dx L M zs (Cl02.step s (.drop p m)) Q
def spTellOffset (k : Ads) : Sp := fun vs H Q _ => ∃ A dx L M zs s, ∃ (p u : Nat), vs = [.ref A, .int p, .int u] ∧ AtlasAt k H A dx L M zs s ∧ OkS s ∧ Post k H A dx L M zs (Cl02.step s (.offset p u)) Q
def spTellShown (k : Ads) : Sp := fun vs H Q _ => ∃ A dx L M zs s, ∃ (p u : Nat), vs = [.ref A, .int p, .int u] ∧ AtlasAt k H A dx L M zs s ∧ OkS s ∧ Post k H A dx L M zs (Cl02.step s (.shows p u)) Q
def spTellMoments (k : Ads) : Sp := fun vs H Q _ => ∃ A dx L M zs s, ∃ (p : Nat) (l : Int), vs = [.ref A, .int p, .int l] ∧ AtlasAt k H A dx L M zs s ∧ OkS s ∧ Post k H A dx L M zs (Cl02.step s (.moments p l)) Q
/-- the date's part of what is told of a time -/
def dateTold (l : Int) : List Int := [2000 + (Cl01.yearOf (l.toNat / 1440) : Int), (Cl01.monthOf (l.toNat / 1440) : Int), (Cl01.domOf (l.toNat / 1440) : Int), ((l.toNat % 1440 : Nat) : Int), (Cl01.weekday (l.toNat / 1440) : Int) + 1]
def spDateTime : Sp := fun vs H Q _ => ∃ l : Int, vs = [.int l] ∧ 0 ≤ l ∧ l < 52596000 ∧ ∀ (H' : Hp) (r : Addr), Same H H' → H r = none → H' r = some (.lst (intV (dateTold l))) → Q (.ref r) H'
def spShownDate (k : Ads) : Sp := fun vs H Q _ => ∃ (p : Addr) (ds : List Decree) (u : Nat), vs = [.ref p, .int u] ∧ PlaceAt k.T k.S k.D k.P H p ds ∧ OkP ds ∧ ∀ (H' : Hp) (r : Addr), Same H H' → H' r = none → Q (.ref r) (upd H' r (.lst (intV (0 :: Cl02.face (Cl02.shown ds u)))))
section
variable {s : State} {p m x : Nat} {z : Int} {a b : List Nat} {y : List Decree}
theorem summer_good (h : sumTold x a b = true) : ∃ ta tb, Cl02.turnOf a = some ta ∧ Cl02.turnOf b = some tb ∧ ¬ (x = 0 ∨ 120 < x ∨ ta.month = tb.month) ∧ Cl02.step s (.summer p m z x a b) = Cl02.decreed s p ⟨m, z, some (x, ta, tb)⟩ := by
  unfold sumTold at h
  split at h
  · rename_i ta tb ea eb
    have c := of_decide_eq_true h
    refine ⟨ta, tb, ea, eb, c, ?_⟩
    show (match Cl02.turnOf a, Cl02.turnOf b with
      | some a, some b => if x = 0 ∨ 120 < x ∨ a.month = b.month then Cl02.placeOf s p fun _ => (s, [-1]) else Cl02.decreed s p ⟨m, z, some (x, a, b)⟩
      | _, _ => Cl02.placeOf s p fun _ => (s, [-1])) = _
    rw [ea, eb]
    exact if_neg c
  · cases h
theorem summer_bad (ey : s.places[p]? = some y) (h : sumTold x a b = false) : Cl02.step s (.summer p m z x a b) = (s, [-1]) := by
  show (match Cl02.turnOf a, Cl02.turnOf b with
    | some a, some b => if x = 0 ∨ 120 < x ∨ a.month = b.month then Cl02.placeOf s p fun _ => (s, [-1]) else Cl02.decreed s p ⟨m, z, some (x, a, b)⟩
    | _, _ => Cl02.placeOf s p fun _ => (s, [-1])) = _
  unfold sumTold at h
  split
  · rename_i ta tb ea eb
    rw [ea, eb] at h
    have c := of_decide_eq_false h
    rw [if_pos (Decidable.not_not.mp c)]
    exact placeOf_some ey
  · exact placeOf_some ey
theorem summer_out (ey : s.places[p]? = some y) (h : 52596000 ≤ m ∨ Cl02.isOffset z = false) : Cl02.step s (.summer p m z x a b) = (s, [-1]) := by
  cases e : sumTold x a b with
  | false => exact summer_bad ey e
  | true =>
    obtain ⟨ta, tb, _, _, _, q⟩ := summer_good (s := s) (p := p) (m := m) (z := z) e
    rw [q]
    exact decreed_out ey h
end
theorem same_made {H1 H2 : Hp} {c dc : Addr} {o1 o2 : HO} (nc : H1 c = none) (ndc : H1 dc = none) (k : ∀ b, b ≠ c → H2 b = upd (upd H1 dc o1) c o2 b) : Same H1 H2 := fun b o h => by
  rw [k b (ne_of_none h nc), upd_ne (ne_of_none h nc), upd_ne (ne_of_none h ndc)]
  exact h
theorem sql_made {K : PySem.W.Frag} {H1 : Hp} {p c dc : Addr} {o1 o2 : HO} {xs : List V} (h : H1 p = some (.lst xs)) (nc : H1 c = none) (ndc : H1 dc = none) : SqL K (upd (upd H1 dc o1) c o2) p xs := .inl (.inl (by
  rw [upd_ne (ne_of_none h nc), upd_ne (ne_of_none h ndc)]
  exact h))
theorem notL_butT {p r : Addr} {H H' : Hp} (b : ButT p H H') (n : NotL H p) (hr : H' r = none) : NotL H r := fun xs h => by
  by_cases e : r = p
  · exact n xs (e ▸ h)
  · rw [b r _ e h fun _ z => by cases z] at hr
    cases hr
theorem lay_post {k : Ads} {H H1 : Hp} {A dx L M c : Addr} {zs : List (Addr × List Decree)} {s : State} {p : Nat} {d : Decree} {z : Addr × List Decree} {Q : VK} {E : XK} (q : Post k H A dx L M zs (Cl02.decreed s p d) Q) (hA : AtlasAt k H A dx L M zs s) (ok : OkS s) (hz : zs[p]? = some z) (e : s.places[p]? = some z.2)
    (out : ¬ (52596000 ≤ d.from_ ∨ Cl02.isOffset d.offset = false)) (s1 : Same H H1) (hD : DecAt k.T k.S k.D H1 c d) : spLayDown k [V.ref z.1, V.ref c] H1 Q E := by
  have hzm := List.mem_of_getElem? hz
  refine ⟨z.1, c, z.2, d, rfl, (hA.at_ z hzm).same s1, ok.places _ (List.mem_of_getElem? e), hD, hA.tabs.ext s1, fun g H' r s' hr => ?_, fun g H' r hP bt tb hr => ?_⟩
  · rw [decreed_full e out g] at q
    exact q.stay hA (fun b o h => s' _ _ (s1 _ _ h)) hr rfl
  · rw [decreed_put e out g] at q
    have b2 : ButT z.1 H H' := (Same.butT s1).trans bt
    obtain ⟨dp, lp, us, hp1, _⟩ := hA.at_ z hzm
    refine q _ r _ ((hA.set ok hz hP b2 tb).same (same_new hr)) (fun y hy => .inl ?_) (fun b o n h t => same_new hr _ _ (frP hzm b2 b o n h t)) (notL_butT b2 (fun xs h => by
      rw [hp1] at h
      cases h) hr) upd_same
    rw [← set_fst hz (Cl02.put d z.2)]
    exact List.mem_map_of_mem hy
abbrev s_lay_down : Stmt := topS 77
abbrev N_lay_down : List Str := ["place", "decree"]
theorem sc_lay_down : FnScope ["place", "decree"] ["place", "decree"] (defScope s_lay_down) := ⟨rfl, rfl, rfl, by decide +kernel, rfl, by decide +kernel, by decide +kernel⟩
abbrev s_add_decree : Stmt := topS 78
abbrev N_add_decree : List Str := ["atlas", "number", "moment", "offset"]
theorem sc_add_decree : FnScope ["atlas", "number", "moment", "offset"] ["atlas", "number", "moment", "offset"] (defScope s_add_decree) := ⟨rfl, rfl, rfl, by decide +kernel, rfl, by decide +kernel, by decide +kernel⟩
abbrev s_makes_summer : Stmt := topS 79
abbrev N_makes_summer : List Str := ["more", "begins", "ends"]
theorem sc_makes_summer : FnScope ["more", "begins", "ends"] ["more", "begins", "ends"] (defScope s_makes_summer) := ⟨rfl, rfl, rfl, by decide +kernel, rfl, by decide +kernel, by decide +kernel⟩
abbrev s_add_summer : Stmt := topS 80
abbrev N_add_summer : List Str := ["atlas", "number", "moment", "offset", "more", "begins", "ends", "summer"]
theorem sc_add_summer : FnScope ["atlas", "number", "moment", "offset", "more", "begins", "ends", "summer"] ["atlas", "number", "moment", "offset", "more", "begins", "ends"] (defScope s_add_summer) := ⟨rfl, rfl, rfl, by decide +kernel, rfl, by decide +kernel, by decide +kernel⟩
abbrev s_drop_decree : Stmt := topS 81
abbrev N_drop_decree : List Str := ["atlas", "number", "moment", "place"]
theorem sc_drop_decree : FnScope ["atlas", "number", "moment", "place"] ["atlas", "number", "moment"] (defScope s_drop_decree) := ⟨rfl, rfl, rfl, by decide +kernel, rfl, by decide +kernel, by decide +kernel⟩
abbrev s_tell_offset : Stmt := topS 82
abbrev N_tell_offset : List Str := ["atlas", "number", "moment"]
theorem sc_tell_offset : FnScope ["atlas", "number", "moment"] ["atlas", "number", "moment"] (defScope s_tell_offset) := ⟨rfl, rfl, rfl, by decide +kernel, rfl, by decide +kernel, by decide +kernel⟩
abbrev s_date_and_time : Stmt := topS 83
abbrev N_date_and_time : List Str := ["shown", "day"]
theorem sc_date_and_time : FnScope ["shown", "day"] ["shown"] (defScope s_date_and_time) := ⟨rfl, rfl, rfl, by decide +kernel, rfl, by decide +kernel, by decide +kernel⟩
abbrev s_shown_with_date : Stmt := topS 84
abbrev N_shown_with_date : List Str := ["place", "moment", "shown"]
theorem sc_shown_with_date : FnScope ["place", "moment", "shown"] ["place", "moment"] (defScope s_shown_with_date) := ⟨rfl, rfl, rfl, by decide +kernel, rfl, by decide +kernel, by decide +kernel⟩
abbrev s_tell_shown : Stmt := topS 85
abbrev N_tell_shown : List Str := ["atlas", "number", "moment"]
theorem sc_tell_shown : FnScope ["atlas", "number", "moment"] ["atlas", "number", "moment"] (defScope s_tell_shown) := ⟨rfl, rfl, rfl, by decide +kernel, rfl, by decide +kernel, by decide +kernel⟩
abbrev s_tell_moments : Stmt := topS 86
abbrev N_tell_moments : List Str := ["atlas", "number", "shown", "moments"]
theorem sc_tell_moments : FnScope ["atlas", "number", "shown", "moments"] ["atlas", "number", "shown"] (defScope s_tell_moments) := ⟨rfl, rfl, rfl, by decide +kernel, rfl, by decide +kernel, by decide +kernel⟩
abbrev s_Atlas_init : Stmt := inClass (topS 73) 0
abbrev N_Atlas_init : List Str := ["self"]
theorem sc_Atlas_init : FnScope ["self"] ["self"] (defScope s_Atlas_init) := ⟨rfl, rfl, rfl, by decide +kernel, rfl, by decide +kernel, by decide +kernel⟩
abbrev s_has_place : Stmt := topS 74
abbrev N_has_place : List Str := ["atlas", "number"]
theorem sc_has_place : FnScope ["atlas", "number"] ["atlas", "number"] (defScope s_has_place) := ⟨rfl, rfl, rfl, by decide +kernel, rfl, by decide +kernel, by decide +kernel⟩
abbrev s_add_place : Stmt := topS 76
abbrev N_add_place : List Str := ["atlas", "offset"]
theorem sc_add_place : FnScope ["atlas", "offset"] ["atlas", "offset"] (defScope s_add_place) := ⟨rfl, rfl, rfl, by decide +kernel, rfl, by decide +kernel, by decide +kernel⟩
section
variable {P : Program} {w : World} {K : PySem.W.Frag} {mg : Str → Option Value} {base : Heap} {k : Ads}
theorem ok_Atlas_init (cAtlas : IsAtlas K mg k.A) (D : Ini K "Atlas.__init__" k.A s_Atlas_init ["self"]) : IsI P w K mg base 1 k.A ["self"] (spAtlasInit k.A) := by
  refine IsI.by D fun f fd F => F.ok sc_Atlas_init (fun vs H Q E h => ?_) (fun cdv A outer s H vs Q E hr h => ?_)
  · obtain ⟨_, _, rfl, _⟩ := h
    rfl
  · obtain ⟨p, dx, rfl, hp, q⟩ := h
    refine ⟨_, (pss_cons (ps_fld (pv 0) (pe_lst pa_nil) rfl)
    (pss_one (ps_fld (pv 0) (pe_lst pa_nil) rfl))), ?_⟩
    simp only [tSeq, tAsg, tOp, tUn, tVar, tC, rI0, rI, rU, rEq, rNe, gName, tIfS, tTest, tB, tAnd, tOr, tNot, tAndV, tOrV, tNotV, tChain, tRet, tRetN, tNext, tDrop, tCall, tCons, tNil, tLst, tFld, sFld, scal_int, L2.start, List.map_cons, List.map_nil, List.length_cons, List.length_nil, List.replicate_succ, List.replicate_zero, List.cons_append, List.nil_append, List.append_nil, List.getElem?_cons_zero, List.getElem?_cons_succ, List.set_cons_zero, List.set_cons_succ, Option.some.injEq, V.int.injEq, V.bl.injEq, V.ref.injEq, HO.ins.injEq, HO.lst.injEq, List.cons.injEq, and_true, true_and, and_assoc, exists_and_left, exists_eq_left', exists_eq_left, exists_eq_right, Nat.reduceSub, Nat.zero_add, Nat.reduceAdd, Nat.reduceLT, decide_eq_true_eq, decide_true, decide_false, Bool.false_eq_true, if_true, if_false, ite_true, ite_false, nox_K, cxOf_K, hp, cAtlas.cl, cAtlas.n_places, cAtlas.n_kept, lk_Atlas_places, lk_Atlas_kept, pn_Atlas_places, pn_Atlas_kept, pu_Atlas_places, pu_Atlas_kept]
    refine ⟨Nat.zero_le _, fun L nL => ?_⟩
    have npL : p ≠ L := ne_of_none hp nL
    have hp1 : upd H L (.lst []) p = some (.ins k.A dx []) := by
      rw [upd_ne npL]
      exact hp
    simp only [tSeq, tAsg, tOp, tUn, tVar, tC, rI0, rI, rU, rEq, rNe, gName, tIfS, tTest, tB, tAnd, tOr, tNot, tAndV, tOrV, tNotV, tChain, tRet, tRetN, tNext, tDrop, tCall, tCons, tNil, tLst, tFld, sFld, scal_int, L2.start, List.map_cons, List.map_nil, List.length_cons, List.length_nil, List.replicate_succ, List.replicate_zero, List.cons_append, List.nil_append, List.append_nil, List.getElem?_cons_zero, List.getElem?_cons_succ, List.set_cons_zero, List.set_cons_succ, Option.some.injEq, V.int.injEq, V.bl.injEq, V.ref.injEq, HO.ins.injEq, HO.lst.injEq, List.cons.injEq, and_true, true_and, and_assoc, exists_and_left, exists_eq_left', exists_eq_left, exists_eq_right, Nat.reduceSub, Nat.zero_add, Nat.reduceAdd, Nat.reduceLT, decide_eq_true_eq, decide_true, decide_false, Bool.false_eq_true, if_true, if_false, ite_true, ite_false, nox_K, cxOf_K, hp1, cAtlas.cl, cAtlas.n_places, cAtlas.n_kept, lk_Atlas_places, lk_Atlas_kept, pn_Atlas_places, pn_Atlas_kept, pu_Atlas_places, pu_Atlas_kept]
    refine ⟨Nat.zero_le _, fun M nM => ?_⟩
    have nLM : L ≠ M := ne_of_none (show upd (upd H L (.lst [])) p (.ins k.A dx [("places", V.ref L)]) L = some (.lst []) by rw [upd_ne (Ne.symm npL), upd_same]) nM
    have npM : p ≠ M := ne_of_none (show upd (upd H L (.lst [])) p (.ins k.A dx [("places", V.ref L)]) p = some _ from upd_same) nM
    refine ⟨k.A, dx, _, by rw [upd_ne npM, upd_same], cAtlas.cl, cAtlas.n_kept, by show 1 < 1000; decide, ?_⟩
    rw [pn_Atlas_kept]
    refine q _ L M nL ?_ nLM upd_same ?_ ?_ (((But.new nL).trans But.upd).trans ((But.new nM).trans But.upd))
    · rw [upd_ne (Ne.symm npM), upd_ne (Ne.symm nLM)] at nM
      exact nM
    · rw [upd_ne (Ne.symm npL), upd_ne nLM, upd_ne (Ne.symm npL), upd_same]
    · rw [upd_ne (Ne.symm npM), upd_same]
theorem ok_has_place (T : Txt mg) (cAtlas : IsAtlas K mg k.A) (D : Def K mg "has_place" s_has_place ["atlas", "number"]) : Is P w K mg base 1 "has_place" ["atlas", "number"] (spHasPlace k) := by
  refine Is.by D fun f fd F => F.ok sc_has_place (fun vs H Q E h => ?_) (fun cdv A outer s H vs Q E hr h => ?_)
  · obtain ⟨_, _, _, _, _, _, _, rfl, _⟩ := h
    rfl
  · obtain ⟨A0, dx, L, M, zs, st, n, rfl, hA, q⟩ := h
    have hp := hA.ins
    refine ⟨_, (pss_one (ps_ret (pe_cmpR op_lt (pv 1) (pe_callB call_len_seq (by rfl) T.n_len PySem.boot_len (pa_cons (pe_fld (pv 0) rfl) pa_nil)) (nomark _)))), ?_⟩
    simp only [tSeq, tAsg, tOp, tUn, tVar, tC, rI0, rI, rU, rEq, rNe, gName, tIfS, tTest, tB, tAnd, tOr, tNot, tAndV, tOrV, tNotV, tChain, tRet, tRetN, tNext, tDrop, tCall, tCons, tNil, tLst, tFld, sFld, scal_int, L2.start, List.map_cons, List.map_nil, List.length_cons, List.length_nil, List.replicate_succ, List.replicate_zero, List.cons_append, List.nil_append, List.append_nil, List.getElem?_cons_zero, List.getElem?_cons_succ, List.set_cons_zero, List.set_cons_succ, Option.some.injEq, V.int.injEq, V.bl.injEq, V.ref.injEq, HO.ins.injEq, HO.lst.injEq, List.cons.injEq, and_true, true_and, and_assoc, exists_and_left, exists_eq_left', exists_eq_left, exists_eq_right, Nat.reduceSub, Nat.zero_add, Nat.reduceAdd, Nat.reduceLT, decide_eq_true_eq, decide_true, decide_false, Bool.false_eq_true, if_true, if_false, ite_true, ite_false, nox_K, cxOf_K, hp, tCB, cAtlas.cl, cAtlas.n_places, cAtlas.n_kept, lk_Atlas_places, lk_Atlas_kept, pn_Atlas_places, pn_Atlas_kept, pu_Atlas_places, pu_Atlas_kept]
    refine ⟨_, .inl (.inl (.inl hA.lst)), ?_⟩
    rw [List.length_map, hA.len, decide_eq_decide.mpr Int.ofNat_lt]
    exact q
theorem ok_add_place (T : Txt mg) (cAtlas : IsAtlas K mg k.A) (cPlace : IsPlace K mg k.P) (I_is_offset : Is P w K mg base 1 "is_offset" ["number"] spIsOffset) (I_Place : IsI P w K mg base 3 k.P ["self", "offset"] (spPlaceInit k.T k.S k.D k.P))
    (D : Def K mg "add_place" s_add_place ["atlas", "offset"]) : Is P w K mg base 5 "add_place" ["atlas", "offset"] (spAddPlace k) := by
  refine Is.by D fun f fd F => F.ok sc_add_place (fun vs H Q E h => ?_) (fun cdv A outer s H vs Q E hr h => ?_)
  · obtain ⟨_, _, _, _, _, _, _, rfl, _⟩ := h
    rfl
  · obtain ⟨A0, dx, L, M, zs, st, z, rfl, hA, ok, q⟩ := h
    have hp := hA.ins
    refine ⟨_, (pss_cons (ps_if (pt_not (pt_val (pe_is I_is_offset (hr.mono (by decide)) rfl (pa_cons (pv 1) pa_nil)))) (pss_one (ps_ret (pe_lst (pa_cons (pe_cst T.g_OUT_OF_BOUNDS rfl) pa_nil)))) pss_nil)
    (pss_cons (ps_if (pt_cmpR op_ge (pe_callB call_len_seq (by rfl) T.n_len PySem.boot_len (pa_cons (pe_fld (pv 0) rfl) pa_nil)) (pe_cst T.g_MOST_PLACES rfl) (nomark _)) (pss_one (ps_ret (pe_lst (pa_cons (pe_cst T.g_NO_ROOM rfl) pa_nil)))) pss_nil)
    (pss_cons (ps_expr (pe_bm PySem.F.plainAttrs_list PySem.F.slot_list_append PySem.F.type_list_append mt_append (pe_fld (pv 0) rfl) (pa_cons (pe_mk I_Place cPlace.at_ (hr.mono (by decide)) rfl (pa_cons (pv 1) pa_nil)) pa_nil)))
    (pss_one (ps_ret (pe_lst (pa_cons (pe_op op_sub (pe_callB call_len_seq (by rfl) T.n_len PySem.boot_len (pa_cons (pe_fld (pv 0) rfl) pa_nil)) pe_int) pa_nil))))))), ?_⟩
    simp only [tSeq, tAsg, tOp, tUn, tVar, tC, rI0, rI, rU, rEq, rNe, gName, tIfS, tTest, tB, tAnd, tOr, tNot, tAndV, tOrV, tNotV, tChain, tRet, tRetN, tNext, tDrop, tCall, tCons, tNil, tLst, tFld, sFld, scal_int, L2.start, List.map_cons, List.map_nil, List.length_cons, List.length_nil, List.replicate_succ, List.replicate_zero, List.cons_append, List.nil_append, List.append_nil, List.getElem?_cons_zero, List.getElem?_cons_succ, List.set_cons_zero, List.set_cons_succ, Option.some.injEq, V.int.injEq, V.bl.injEq, V.ref.injEq, HO.ins.injEq, HO.lst.injEq, List.cons.injEq, and_true, true_and, and_assoc, exists_and_left, exists_eq_left', exists_eq_left, exists_eq_right, Nat.reduceSub, Nat.zero_add, Nat.reduceAdd, Nat.reduceLT, decide_eq_true_eq, decide_true, decide_false, Bool.false_eq_true, if_true, if_false, ite_true, ite_false, nox_K, cxOf_K, hp, cAtlas.cl, cAtlas.n_places, cAtlas.n_kept, lk_Atlas_places, lk_Atlas_kept, pn_Atlas_places, pn_Atlas_kept, pu_Atlas_places, pu_Atlas_kept]
    refine ⟨z, rfl, ?_⟩
    simp only [tSeq, tAsg, tOp, tUn, tVar, tC, rI0, rI, rU, rEq, rNe, gName, tIfS, tTest, tB, tAnd, tOr, tNot, tAndV, tOrV, tNotV, tChain, tRet, tRetN, tNext, tDrop, tCall, tCons, tNil, tLst, tFld, sFld, scal_int, L2.start, List.map_cons, List.map_nil, List.length_cons, List.length_nil, List.replicate_succ, List.replicate_zero, List.cons_append, List.nil_append, List.append_nil, List.getElem?_cons_zero, List.getElem?_cons_succ, List.set_cons_zero, List.set_cons_succ, Option.some.injEq, V.int.injEq, V.bl.injEq, V.ref.injEq, HO.ins.injEq, HO.lst.injEq, List.cons.injEq, and_true, true_and, and_assoc, exists_and_left, exists_eq_left', exists_eq_left, exists_eq_right, Nat.reduceSub, Nat.zero_add, Nat.reduceAdd, Nat.reduceLT, decide_eq_true_eq, decide_true, decide_false, Bool.false_eq_true, if_true, if_false, ite_true, ite_false, nox_K, cxOf_K, hp, tCB, cAtlas.cl, cAtlas.n_places, cAtlas.n_kept, lk_Atlas_places, lk_Atlas_kept, pn_Atlas_places, pn_Atlas_kept, pu_Atlas_places, pu_Atlas_kept]
    have es : Cl02.step st (.place z) = if Cl02.isOffset z = false then (st, [-1]) else if 6 ≤ st.places.length then (st, [-5]) else ({ st with places := st.places ++ [[⟨0, z, none⟩]] }, [(st.places.length : Int)]) := rfl
    rw [es] at q
    cases ho : Cl02.isOffset z with
    | false =>
      rw [ho, if_pos rfl] at q
      rw [if_pos (by decide)]
      exact ⟨by decide, fun r nr => q.stay hA (fun b o h => h) nr rfl⟩
    | true =>
      rw [ho, if_neg (by decide)] at q
      rw [if_neg (by decide)]
      refine ⟨_, .inl (.inl (.inl hA.lst)), ?_⟩
      rw [List.length_map, hA.len]
      by_cases h6 : 6 ≤ st.places.length
      · rw [if_pos h6] at q
        rw [if_pos (by omega)]
        exact ⟨by decide, fun r nr => q.stay hA (fun b o h => h) nr rfl⟩
      · rw [if_neg h6] at q
        rw [if_neg (by omega)]
        simp only [tSeq, tAsg, tOp, tUn, tVar, tC, rI0, rI, rU, rEq, rNe, gName, tIfS, tTest, tB, tAnd, tOr, tNot, tAndV, tOrV, tNotV, tChain, tRet, tRetN, tNext, tDrop, tCall, tCons, tNil, tLst, tFld, sFld, scal_int, L2.start, List.map_cons, List.map_nil, List.length_cons, List.length_nil, List.replicate_succ, List.replicate_zero, List.cons_append, List.nil_append, List.append_nil, List.getElem?_cons_zero, List.getElem?_cons_succ, List.set_cons_zero, List.set_cons_succ, Option.some.injEq, V.int.injEq, V.bl.injEq, V.ref.injEq, HO.ins.injEq, HO.lst.injEq, List.cons.injEq, and_true, true_and, and_assoc, exists_and_left, exists_eq_left', exists_eq_left, exists_eq_right, Nat.reduceSub, Nat.zero_add, Nat.reduceAdd, Nat.reduceLT, decide_eq_true_eq, decide_true, decide_false, Bool.false_eq_true, if_true, if_false, ite_true, ite_false, nox_K, cxOf_K, hp, tBM, tMake, rAppend, cAtlas.cl, cAtlas.n_places, cAtlas.n_kept, lk_Atlas_places, lk_Atlas_kept, pn_Atlas_places, pn_Atlas_kept, pu_Atlas_places, pu_Atlas_kept]
        refine ⟨.inl ⟨rfl, _, .inl (.inl hA.lst)⟩, fun x dx' nx ndx hne => ⟨x, dx', z, rfl, upd_same, fun H2 hP b2 => ⟨rfl, ?_⟩⟩⟩
        have s2 : Same H H2 := fun b o hb => b2 b o (ne_of_none hb nx) (by
          rw [upd_ne (ne_of_none hb nx), upd_ne (ne_of_none hb ndx)]
          exact hb)
        have hA3 := hA.add ok nx s2 hP (List.cons_ne_nil _ _)
        refine ⟨_, s2 _ _ hA.lst, len_line (n := 6) (by rw [List.length_map, hA.len]; omega), k.A, dx, _, hA3.ins, cAtlas.cl, cAtlas.n_places, _, lk_Atlas_places, L, rfl, _, .inl (.inl (.inl upd_same)), by decide, fun r nr => ?_⟩
        refine q _ r _ (hA3.same (same_new nr)) (fun y hy => ?_) (fun b o nb hb _ => same_new nr _ _ ?_) (fun xs hx => ?_) ?_
        · rcases List.mem_append.mp hy with m | m
          · exact .inl (List.mem_map_of_mem m)
          · rw [List.mem_singleton.mp m]
            exact .inr nx
        · rw [upd_ne (a := L) (b := b) fun e => nb (by rw [e]; exact List.mem_cons_self ..)]
          exact s2 _ _ hb
        · by_cases e : r = L
          · rw [e, upd_same] at nr
            cases nr
          · rw [upd_ne e, s2 _ _ hx] at nr
            cases nr
        · rw [upd_same, List.length_append, List.length_map, hA.len, List.length_singleton]
          show some (HO.lst [V.int (((st.places.length + 1 : Nat) : Int) - 1)]) = some (HO.lst [V.int (st.places.length : Int)])
          rw [show (((st.places.length + 1 : Nat) : Int) - 1) = (st.places.length : Int) by omega]
theorem ok_lay_down (T : Txt mg) (cDecree : IsDecree K mg k.D) (cPlace : IsPlace K mg k.P) (I_has_decree_from : Is P w K mg base 1 "has_decree_from" ["place", "moment"] (spHasDecree k.T k.S k.D k.P)) (I_put_decree : Is P w K mg base 4 "put_decree" ["place", "decree"] (spPutDecree k.T k.S k.D k.P k.Tb))
    (D : Def K mg "lay_down" s_lay_down ["place", "decree"]) : Is P w K mg base 5 "lay_down" ["place", "decree"] (spLayDown k) := by
  refine Is.by D fun f fd F => F.ok sc_lay_down (fun vs H Q E h => ?_) (fun cdv A outer s H vs Q E hr h => ?_)
  · obtain ⟨_, _, _, _, rfl, _⟩ := h
    rfl
  · obtain ⟨p, q, ds, d, rfl, hP, ok, hD, hT, q1, q2⟩ := h
    have hP0 := hP
    have hD0 := hD
    obtain ⟨dx, l, zs, hp, hl, ez, hz⟩ := hP
    obtain ⟨dq, vq, hq, hv⟩ := hD
    refine ⟨_, (pss_cons (ps_if (PW.pt (pw_and (pt_cmpR op_ge (pe_callB call_len_seq (by rfl) T.n_len PySem.boot_len (pa_cons (pe_fld (pv 0) rfl) pa_nil)) (pe_cst T.g_MOST_DECREES rfl) (nomark _)) (pw_and1 (pt_not (pt_val (pe_is I_has_decree_from (hr.mono (by decide)) rfl (pa_cons (pv 0) (pa_cons (pe_fld (pv 1) rfl) pa_nil)))))))) (pss_one (ps_ret (pe_lst (pa_cons (pe_cst T.g_NO_ROOM rfl) pa_nil)))) pss_nil)
    (pss_cons (ps_expr (pe_is I_put_decree (hr.mono (by decide)) rfl (pa_cons (pv 0) (pa_cons (pv 1) pa_nil))))
    (pss_one (ps_ret (pe_lst (pa_cons (pe_callB call_len_seq (by rfl) T.n_len PySem.boot_len (pa_cons (pe_fld (pv 0) rfl) pa_nil)) pa_nil)))))), ?_⟩
    have key : ∀ (H1 : Hp) (R : VK), Same H H1 → (∀ H2, PlaceAt k.T k.S k.D k.P H2 p (Cl02.put d ds) → ButT p H H2 → LamX.Tabs [(k.Tb, lamName)] H2 → R .non H2) → spPutDecree k.T k.S k.D k.P k.Tb [V.ref p, V.ref q] H1 R E0 :=
      fun H1 R s1 g => ⟨p, q, ds, d, rfl, hP0.same s1, ok, hD0.same s1, hT.ext s1, fun H2 a b c => g H2 a ((Same.butT s1).trans b) c⟩
    have fin : ¬ (8 ≤ ds.length ∧ ds.any (fun e => e.from_ == d.from_) = false) → ∀ H2, PlaceAt k.T k.S k.D k.P H2 p (Cl02.put d ds) → ButT p H H2 → LamX.Tabs [(k.Tb, lamName)] H2 → ∀ l2 zs2, H2 l2 = some (.lst (refs zs2)) → zs2.map (·.2) = Cl02.put d ds →
        ∃ x, (SqL K H2 l2 x ∨ SqT K H2 l2 x) ∧ 1 ≤ sizeLine ∧ ∀ r, H2 r = none → Q (V.ref r) (upd H2 r (HO.lst [V.int x.length])) := fun n H2 a b c l2 zs2 hl2 ez2 => by
      refine ⟨_, .inl (.inl (.inl hl2)), by decide, fun r nr => ?_⟩
      have q3 := q2 n H2 r a b c nr
      rw [refs, List.length_map]
      rw [← ez2, List.length_map] at q3
      exact q3
    have e8 : (refs zs).length = ds.length := by
      rw [refs, List.length_map, ← ez, List.length_map]
    simp only [tSeq, tAsg, tOp, tUn, tVar, tC, rI0, rI, rU, rEq, rNe, gName, tIfS, tTest, tB, tAnd, tOr, tNot, tAndV, tOrV, tNotV, tChain, tRet, tRetN, tNext, tDrop, tCall, tCons, tNil, tLst, tFld, sFld, scal_int, L2.start, List.map_cons, List.map_nil, List.length_cons, List.length_nil, List.replicate_succ, List.replicate_zero, List.cons_append, List.nil_append, List.append_nil, List.getElem?_cons_zero, List.getElem?_cons_succ, List.set_cons_zero, List.set_cons_succ, Option.some.injEq, V.int.injEq, V.bl.injEq, V.ref.injEq, HO.ins.injEq, HO.lst.injEq, List.cons.injEq, and_true, true_and, and_assoc, exists_and_left, exists_eq_left', exists_eq_left, exists_eq_right, Nat.reduceSub, Nat.zero_add, Nat.reduceAdd, Nat.reduceLT, decide_eq_true_eq, decide_true, decide_false, Bool.false_eq_true, if_true, if_false, ite_true, ite_false, nox_K, cxOf_K, hp, hq, tCB, cPlace.cl, cPlace.n_decrees, lk_Place_decrees, pn_Place_decrees, pu_Place_decrees, cDecree.cl, cDecree.n_moment, cDecree.n_offset, cDecree.n_summer, lk_Decree_moment, lk_Decree_offset, lk_Decree_summer, pn_Decree_moment, pn_Decree_offset, pn_Decree_summer, pu_Decree_moment, pu_Decree_offset, pu_Decree_summer]
    refine ⟨_, .inl (.inl (.inl hl)), ?_⟩
    rw [e8]
    by_cases h8 : 8 ≤ ds.length
    · rw [if_pos (by omega)]
      refine ⟨p, ds, d.from_, rfl, hP0, ok.few, fun H1 s1 => ?_⟩
      simp only [tSeq, tAsg, tOp, tUn, tVar, tC, rI0, rI, rU, rEq, rNe, gName, tIfS, tTest, tB, tAnd, tOr, tNot, tAndV, tOrV, tNotV, tChain, tRet, tRetN, tNext, tDrop, tCall, tCons, tNil, tLst, tFld, sFld, scal_int, L2.start, List.map_cons, List.map_nil, List.length_cons, List.length_nil, List.replicate_succ, List.replicate_zero, List.cons_append, List.nil_append, List.append_nil, List.getElem?_cons_zero, List.getElem?_cons_succ, List.set_cons_zero, List.set_cons_succ, Option.some.injEq, V.int.injEq, V.bl.injEq, V.ref.injEq, HO.ins.injEq, HO.lst.injEq, List.cons.injEq, and_true, true_and, and_assoc, exists_and_left, exists_eq_left', exists_eq_left, exists_eq_right, Nat.reduceSub, Nat.zero_add, Nat.reduceAdd, Nat.reduceLT, decide_eq_true_eq, decide_true, decide_false, Bool.false_eq_true, if_true, if_false, ite_true, ite_false, nox_K, cxOf_K]
      cases ha : ds.any (fun e => e.from_ == d.from_) with
      | false =>
        rw [if_pos (by decide)]
        exact ⟨by decide, fun r nr => q1 ⟨h8, ha⟩ H1 r s1 nr⟩
      | true =>
        rw [if_neg (by decide)]
        refine key H1 _ s1 fun H2 a b c => ?_
        obtain ⟨dx2, l2, zs2, hp2, hl2, ez2, _⟩ := id a
        simp only [tSeq, tAsg, tOp, tUn, tVar, tC, rI0, rI, rU, rEq, rNe, gName, tIfS, tTest, tB, tAnd, tOr, tNot, tAndV, tOrV, tNotV, tChain, tRet, tRetN, tNext, tDrop, tCall, tCons, tNil, tLst, tFld, sFld, scal_int, L2.start, List.map_cons, List.map_nil, List.length_cons, List.length_nil, List.replicate_succ, List.replicate_zero, List.cons_append, List.nil_append, List.append_nil, List.getElem?_cons_zero, List.getElem?_cons_succ, List.set_cons_zero, List.set_cons_succ, Option.some.injEq, V.int.injEq, V.bl.injEq, V.ref.injEq, HO.ins.injEq, HO.lst.injEq, List.cons.injEq, and_true, true_and, and_assoc, exists_and_left, exists_eq_left', exists_eq_left, exists_eq_right, Nat.reduceSub, Nat.zero_add, Nat.reduceAdd, Nat.reduceLT, decide_eq_true_eq, decide_true, decide_false, Bool.false_eq_true, if_true, if_false, ite_true, ite_false, nox_K, cxOf_K, hp2, cPlace.cl, cPlace.n_decrees, lk_Place_decrees, pn_Place_decrees, pu_Place_decrees]
        exact fin (fun z => by rw [ha] at z; cases z.2) H2 a b c l2 zs2 hl2 ez2
    · rw [if_neg (by omega)]
      refine key H _ (fun b o h => h) fun H2 a b c => ?_
      obtain ⟨dx2, l2, zs2, hp2, hl2, ez2, _⟩ := id a
      simp only [tSeq, tAsg, tOp, tUn, tVar, tC, rI0, rI, rU, rEq, rNe, gName, tIfS, tTest, tB, tAnd, tOr, tNot, tAndV, tOrV, tNotV, tChain, tRet, tRetN, tNext, tDrop, tCall, tCons, tNil, tLst, tFld, sFld, scal_int, L2.start, List.map_cons, List.map_nil, List.length_cons, List.length_nil, List.replicate_succ, List.replicate_zero, List.cons_append, List.nil_append, List.append_nil, List.getElem?_cons_zero, List.getElem?_cons_succ, List.set_cons_zero, List.set_cons_succ, Option.some.injEq, V.int.injEq, V.bl.injEq, V.ref.injEq, HO.ins.injEq, HO.lst.injEq, List.cons.injEq, and_true, true_and, and_assoc, exists_and_left, exists_eq_left', exists_eq_left, exists_eq_right, Nat.reduceSub, Nat.zero_add, Nat.reduceAdd, Nat.reduceLT, decide_eq_true_eq, decide_true, decide_false, Bool.false_eq_true, if_true, if_false, ite_true, ite_false, nox_K, cxOf_K, hp2, cPlace.cl, cPlace.n_decrees, lk_Place_decrees, pn_Place_decrees, pu_Place_decrees]
      exact fin (fun z => h8 z.1) H2 a b c l2 zs2 hl2 ez2
theorem ok_add_decree (T : Txt mg) (cAtlas : IsAtlas K mg k.A) (cDecree : IsDecree K mg k.D) (I_has_place : Is P w K mg base 1 "has_place" ["atlas", "number"] (spHasPlace k)) (I_is_moment : Is P w K mg base 1 "is_moment" ["number"] spIsMoment) (I_is_offset : Is P w K mg base 1 "is_offset" ["number"] spIsOffset)
    (I_Decree : IsI P w K mg base 1 k.D ["self", "moment", "offset", "summer"] (spDecreeInit k.D)) (I_lay_down : Is P w K mg base 5 "lay_down" ["place", "decree"] (spLayDown k)) (D : Def K mg "add_decree" s_add_decree ["atlas", "number", "moment", "offset"]) : Is P w K mg base 6 "add_decree" ["atlas", "number", "moment", "offset"] (spAddDecree k) := by
  refine Is.by D fun f fd F => F.ok sc_add_decree (fun vs H Q E h => ?_) (fun cdv A outer s H vs Q E hr h => ?_)
  · obtain ⟨_, _, _, _, _, _, _, _, _, rfl, _⟩ := h
    rfl
  · obtain ⟨A0, dx, L, M, zs, st, p, m, z, rfl, hA, ok, q⟩ := h
    have hp := hA.ins
    refine ⟨_, (pss_cons (ps_if (pt_not (pt_val (pe_is I_has_place (hr.mono (by decide)) rfl (pa_cons (pv 0) (pa_cons (pv 1) pa_nil))))) (pss_one (ps_ret (pe_lst (pa_cons (pe_cst T.g_NONE_SUCH rfl) pa_nil)))) pss_nil)
    (pss_cons (ps_if (pt_not (PW.pt (pw_and (pt_val (pe_is I_is_moment (hr.mono (by decide)) rfl (pa_cons (pv 2) pa_nil))) (pw_and1 (pt_val (pe_is I_is_offset (hr.mono (by decide)) rfl (pa_cons (pv 3) pa_nil))))))) (pss_one (ps_ret (pe_lst (pa_cons (pe_cst T.g_OUT_OF_BOUNDS rfl) pa_nil)))) pss_nil)
    (pss_one (ps_ret (pe_is I_lay_down (hr.mono (by decide)) rfl (pa_cons (pe_ix ix_list (pe_fld (pv 0) rfl) (pv 1) (fun _ _ => rfl)) (pa_cons (pe_mk I_Decree cDecree.at_ (hr.mono (by decide)) rfl (pa_cons (pv 2) (pa_cons (pv 3) (pa_cons pe_non pa_nil)))) pa_nil))))))), ?_⟩
    simp only [tSeq, tAsg, tOp, tUn, tVar, tC, rI0, rI, rU, rEq, rNe, gName, tIfS, tTest, tB, tAnd, tOr, tNot, tAndV, tOrV, tNotV, tChain, tRet, tRetN, tNext, tDrop, tCall, tCons, tNil, tLst, tFld, sFld, scal_int, L2.start, List.map_cons, List.map_nil, List.length_cons, List.length_nil, List.replicate_succ, List.replicate_zero, List.cons_append, List.nil_append, List.append_nil, List.getElem?_cons_zero, List.getElem?_cons_succ, List.set_cons_zero, List.set_cons_succ, Option.some.injEq, V.int.injEq, V.bl.injEq, V.ref.injEq, HO.ins.injEq, HO.lst.injEq, List.cons.injEq, and_true, true_and, and_assoc, exists_and_left, exists_eq_left', exists_eq_left, exists_eq_right, Nat.reduceSub, Nat.zero_add, Nat.reduceAdd, Nat.reduceLT, decide_eq_true_eq, decide_true, decide_false, Bool.false_eq_true, if_true, if_false, ite_true, ite_false, nox_K, cxOf_K, hp, cAtlas.cl, cAtlas.n_places, cAtlas.n_kept, lk_Atlas_places, lk_Atlas_kept, pn_Atlas_places, pn_Atlas_kept, pu_Atlas_places, pu_Atlas_kept]
    refine ⟨A0, dx, L, M, zs, st, p, rfl, hA, ?_⟩
    simp only [tSeq, tAsg, tOp, tUn, tVar, tC, rI0, rI, rU, rEq, rNe, gName, tIfS, tTest, tB, tAnd, tOr, tNot, tAndV, tOrV, tNotV, tChain, tRet, tRetN, tNext, tDrop, tCall, tCons, tNil, tLst, tFld, sFld, scal_int, L2.start, List.map_cons, List.map_nil, List.length_cons, List.length_nil, List.replicate_succ, List.replicate_zero, List.cons_append, List.nil_append, List.append_nil, List.getElem?_cons_zero, List.getElem?_cons_succ, List.set_cons_zero, List.set_cons_succ, Option.some.injEq, V.int.injEq, V.bl.injEq, V.ref.injEq, HO.ins.injEq, HO.lst.injEq, List.cons.injEq, and_true, true_and, and_assoc, exists_and_left, exists_eq_left', exists_eq_left, exists_eq_right, Nat.reduceSub, Nat.zero_add, Nat.reduceAdd, Nat.reduceLT, decide_eq_true_eq, decide_true, decide_false, Bool.false_eq_true, if_true, if_false, ite_true, ite_false, nox_K, cxOf_K, hp, cAtlas.cl, cAtlas.n_places, cAtlas.n_kept, lk_Atlas_places, lk_Atlas_kept, pn_Atlas_places, pn_Atlas_kept, pu_Atlas_places, pu_Atlas_kept]
    have es : Cl02.step st (.decree p m z) = Cl02.decreed st p ⟨m, z, none⟩ := rfl
    rw [es] at q
    by_cases hpl : p < st.places.length
    · obtain ⟨y, hy, hym, hPy, ey⟩ := hA.get hpl
      rw [decide_eq_true hpl, if_neg (by decide)]
      refine ⟨(m : Int), rfl, _, rfl, ?_⟩
      have em : decide ((0 : Int) ≤ (m : Int) ∧ (m : Int) < 52596000) = decide (m < 52596000) := decide_eq_decide.mpr (by omega)
      rw [em]
      by_cases hm : m < 52596000
      · rw [decide_eq_true hm, if_pos rfl]
        refine ⟨z, rfl, _, rfl, ?_⟩
        cases ho : Cl02.isOffset z with
        | false =>
          rw [if_pos (by decide)]
          rw [decreed_out ey (.inr ho)] at q
          exact ⟨by decide, fun r nr => q.stay hA (fun b o h => h) nr rfl⟩
        | true =>
          rw [if_neg (by decide)]
          simp only [tSeq, tAsg, tOp, tUn, tVar, tC, rI0, rI, rU, rEq, rNe, gName, tIfS, tTest, tB, tAnd, tOr, tNot, tAndV, tOrV, tNotV, tChain, tRet, tRetN, tNext, tDrop, tCall, tCons, tNil, tLst, tFld, sFld, scal_int, L2.start, List.map_cons, List.map_nil, List.length_cons, List.length_nil, List.replicate_succ, List.replicate_zero, List.cons_append, List.nil_append, List.append_nil, List.getElem?_cons_zero, List.getElem?_cons_succ, List.set_cons_zero, List.set_cons_succ, Option.some.injEq, V.int.injEq, V.bl.injEq, V.ref.injEq, HO.ins.injEq, HO.lst.injEq, List.cons.injEq, and_true, true_and, and_assoc, exists_and_left, exists_eq_left', exists_eq_left, exists_eq_right, Nat.reduceSub, Nat.zero_add, Nat.reduceAdd, Nat.reduceLT, decide_eq_true_eq, decide_true, decide_false, Bool.false_eq_true, if_true, if_false, ite_true, ite_false, nox_K, cxOf_K, hp, cAtlas.cl, cAtlas.n_places, cAtlas.n_kept, lk_Atlas_places, lk_Atlas_kept, pn_Atlas_places, pn_Atlas_kept, pu_Atlas_places, pu_Atlas_kept]
          refine ixl (j := p) (.inl (.inl hA.lst)) (v := V.ref y.1) (by rw [List.getElem?_map, hy]; rfl) ?_
          simp only [tSeq, tAsg, tOp, tUn, tVar, tC, rI0, rI, rU, rEq, rNe, gName, tIfS, tTest, tB, tAnd, tOr, tNot, tAndV, tOrV, tNotV, tChain, tRet, tRetN, tNext, tDrop, tCall, tCons, tNil, tLst, tFld, sFld, scal_int, L2.start, List.map_cons, List.map_nil, List.length_cons, List.length_nil, List.replicate_succ, List.replicate_zero, List.cons_append, List.nil_append, List.append_nil, List.getElem?_cons_zero, List.getElem?_cons_succ, List.set_cons_zero, List.set_cons_succ, Option.some.injEq, V.int.injEq, V.bl.injEq, V.ref.injEq, HO.ins.injEq, HO.lst.injEq, List.cons.injEq, and_true, true_and, and_assoc, exists_and_left, exists_eq_left', exists_eq_left, exists_eq_right, Nat.reduceSub, Nat.zero_add, Nat.reduceAdd, Nat.reduceLT, decide_eq_true_eq, decide_true, decide_false, Bool.false_eq_true, if_true, if_false, ite_true, ite_false, nox_K, cxOf_K, tMake]
          refine fun c dc nc ndc nec => ⟨c, dc, _, _, _, rfl, upd_same, fun H2 h2 k2 => ⟨rfl, ?_⟩⟩
          have s2 : Same H H2 := fun b o hb => by
            rw [k2 b (ne_of_none hb nc), upd_ne (ne_of_none hb nc), upd_ne (ne_of_none hb ndc)]
            exact hb
          exact lay_post q hA ok hy ey (fun w => by
            rcases w with w | w
            · exact absurd hm (Nat.not_lt.mpr w)
            · rw [show Cl02.isOffset z = false from w] at ho
              cases ho) s2 ⟨dc, .non, h2, rfl⟩
      · rw [decide_eq_false hm, if_neg (by decide), if_pos (by decide)]
        rw [decreed_out ey (.inl (Nat.le_of_not_lt hm))] at q
        exact ⟨by decide, fun r nr => q.stay hA (fun b o h => h) nr rfl⟩
    · rw [decide_eq_false hpl, if_pos (by decide)]
      rw [decreed_none hpl] at q
      exact ⟨by decide, fun r nr => q.stay hA (fun b o h => h) nr rfl⟩
theorem ok_makes_summer (cTurn : IsTurn K mg k.T) (I_is_more : Is P w K mg base 1 "is_more" ["number"] spIsMore) (I_is_turn : Is P w K mg base 1 "is_turn" ["row"] (spIsTurn K)) (I_Turn : IsI P w K mg base 1 k.T ["self", "row"] (spTurnInit K k.T))
    (D : Def K mg "makes_summer" s_makes_summer ["more", "begins", "ends"]) : Is P w K mg base 3 "makes_summer" ["more", "begins", "ends"] spMakesSummer := by
  refine Is.by D fun f fd F => F.ok sc_makes_summer (fun vs H Q E h => ?_) (fun cdv A outer s H vs Q E hr h => ?_)
  · obtain ⟨_, _, _, _, _, rfl, _⟩ := h
    rfl
  · obtain ⟨x, p, q, a, b, rfl, ha, hb, q0⟩ := h
    refine ⟨_, (pss_cons (ps_if (pt_not (PW.pt (pw_and (pt_val (pe_is I_is_more (hr.mono (by decide)) rfl (pa_cons (pv 0) pa_nil))) (pw_and (pt_val (pe_is I_is_turn (hr.mono (by decide)) rfl (pa_cons (pv 1) pa_nil))) (pw_and1 (pt_val (pe_is I_is_turn (hr.mono (by decide)) rfl (pa_cons (pv 2) pa_nil)))))))) (pss_one (ps_ret pe_bl)) pss_nil)
    (pss_one (ps_ret (pe_cmpR op_ne (pe_fld (pe_mk I_Turn cTurn.at_ (hr.mono (by decide)) rfl (pa_cons (pv 1) pa_nil)) rfl) (pe_fld (pe_mk I_Turn cTurn.at_ (hr.mono (by decide)) rfl (pa_cons (pv 2) pa_nil)) rfl) (nomark _))))), ?_⟩
    simp only [tSeq, tAsg, tOp, tUn, tVar, tC, rI0, rI, rU, rEq, rNe, gName, tIfS, tTest, tB, tAnd, tOr, tNot, tAndV, tOrV, tNotV, tChain, tRet, tRetN, tNext, tDrop, tCall, tCons, tNil, tLst, tFld, sFld, scal_int, L2.start, List.map_cons, List.map_nil, List.length_cons, List.length_nil, List.replicate_succ, List.replicate_zero, List.cons_append, List.nil_append, List.append_nil, List.getElem?_cons_zero, List.getElem?_cons_succ, List.set_cons_zero, List.set_cons_succ, Option.some.injEq, V.int.injEq, V.bl.injEq, V.ref.injEq, HO.ins.injEq, HO.lst.injEq, List.cons.injEq, and_true, true_and, and_assoc, exists_and_left, exists_eq_left', exists_eq_left, exists_eq_right, Nat.reduceSub, Nat.zero_add, Nat.reduceAdd, Nat.reduceLT, decide_eq_true_eq, decide_true, decide_false, Bool.false_eq_true, if_true, if_false, ite_true, ite_false, nox_K, cxOf_K]
    refine ⟨(x : Int), rfl, _, rfl, ?_⟩
    have ex : decide ((1 : Int) ≤ (x : Int) ∧ (x : Int) ≤ 120) = decide (¬ (x = 0 ∨ 120 < x)) := decide_eq_decide.mpr (by omega)
    rw [ex]
    have q1 := q0
    unfold sumTold at q0
    by_cases hx : x = 0 ∨ 120 < x
    · rw [decide_eq_false (fun z => z hx), if_neg (by decide), if_pos (by decide)]
      have e : sumTold x a b = false := by
        unfold sumTold
        split
        · exact decide_eq_false fun z => z (by
            rcases hx with y | y
            · exact .inl y
            · exact .inr (.inl y))
        · rfl
      rw [← e]
      exact q1 H fun b o h => h
    · rw [decide_eq_true hx, if_pos rfl]
      refine ⟨p, a, rfl, .inl (.inl ha), _, rfl, ?_⟩
      cases eta : Cl02.turnOf a with
      | none =>
        rw [if_neg (by decide), if_pos (by decide)]
        have e : sumTold x a b = false := by
          unfold sumTold
          rw [eta]
        rw [← e]
        exact q1 H fun b o h => h
      | some ta =>
        rw [if_pos (show (some ta).isSome = true from rfl)]
        refine ⟨q, b, rfl, .inl (.inl hb), _, rfl, ?_⟩
        cases etb : Cl02.turnOf b with
        | none =>
          rw [if_pos (by decide)]
          have e : sumTold x a b = false := by
            unfold sumTold
            rw [eta, etb]
          rw [← e]
          exact q1 H fun b o h => h
        | some tb =>
          rw [if_neg (show ¬ (!(some tb).isSome) = true from Bool.false_ne_true)]
          simp only [tSeq, tAsg, tOp, tUn, tVar, tC, rI0, rI, rU, rEq, rNe, gName, tIfS, tTest, tB, tAnd, tOr, tNot, tAndV, tOrV, tNotV, tChain, tRet, tRetN, tNext, tDrop, tCall, tCons, tNil, tLst, tFld, sFld, scal_int, L2.start, List.map_cons, List.map_nil, List.length_cons, List.length_nil, List.replicate_succ, List.replicate_zero, List.cons_append, List.nil_append, List.append_nil, List.getElem?_cons_zero, List.getElem?_cons_succ, List.set_cons_zero, List.set_cons_succ, Option.some.injEq, V.int.injEq, V.bl.injEq, V.ref.injEq, HO.ins.injEq, HO.lst.injEq, List.cons.injEq, and_true, true_and, and_assoc, exists_and_left, exists_eq_left', exists_eq_left, exists_eq_right, Nat.reduceSub, Nat.zero_add, Nat.reduceAdd, Nat.reduceLT, decide_eq_true_eq, decide_true, decide_false, Bool.false_eq_true, if_true, if_false, ite_true, ite_false, nox_K, cxOf_K, tMake]
          refine fun c dc nc ndc nec => ⟨c, dc, p, a, ta, rfl, upd_same, .inl (.inl (by rw [upd_ne (ne_of_none ha nc), upd_ne (ne_of_none ha ndc)]; exact ha)), ne_of_none ha nc, eta, fun H1 h1 k1 => ⟨rfl, k.T, dc, _, h1, cTurn.cl, cTurn.n_month, _, lk_Turn_month, ?_⟩⟩
          have s1 : Same H H1 := fun b o h => by
            rw [k1 b (ne_of_none h nc), upd_ne (ne_of_none h nc), upd_ne (ne_of_none h ndc)]
            exact h
          have hb1 := s1 _ _ hb
          refine fun e de ne nde nee => ⟨e, de, q, b, tb, rfl, upd_same, .inl (.inl (by rw [upd_ne (ne_of_none hb1 ne), upd_ne (ne_of_none hb1 nde)]; exact hb1)), ne_of_none hb1 ne, etb, fun H2 h2 k2 => ⟨rfl, k.T, de, _, h2, cTurn.cl, cTurn.n_month, _, lk_Turn_month, rfl, ?_⟩⟩
          have s2 : Same H H2 := fun b o h => by
            have h' := s1 _ _ h
            rw [k2 b (ne_of_none h' ne), upd_ne (ne_of_none h' ne), upd_ne (ne_of_none h' nde)]
            exact h'
          have et : (!decide (V.int (ta.month : Int) = V.int (tb.month : Int))) = sumTold x a b := by
            unfold sumTold
            rw [eta, etb]
            show (!decide (V.int (ta.month : Int) = V.int (tb.month : Int))) = decide (¬ (x = 0 ∨ 120 < x ∨ ta.month = tb.month))
            by_cases hm : ta.month = tb.month
            · rw [hm, decide_eq_true rfl, decide_eq_false (fun z => z (.inr (.inr rfl)))]
              rfl
            · rw [decide_eq_false (p := V.int (ta.month : Int) = V.int (tb.month : Int)) (fun z => hm (Int.ofNat.inj (V.int.inj z)))]
              exact (decide_eq_true (show ¬ (x = 0 ∨ 120 < x ∨ ta.month = tb.month) from fun z => by omega)).symm
          rw [et]
          exact q1 H2 s2
theorem ok_drop_decree (T : Txt mg) (cAtlas : IsAtlas K mg k.A) (cPlace : IsPlace K mg k.P) (I_has_place : Is P w K mg base 1 "has_place" ["atlas", "number"] (spHasPlace k)) (I_has_decree_from : Is P w K mg base 1 "has_decree_from" ["place", "moment"] (spHasDecree k.T k.S k.D k.P))
    (I_take_decree : Is P w K mg base 1 "take_decree" ["place", "moment"] (spTakeDecree k.T k.S k.D k.P)) (D : Def K mg "drop_decree" s_drop_decree ["atlas", "number", "moment"]) : Is P w K mg base 2 "drop_decree" ["atlas", "number", "moment"] (spDrop k) := by
  refine Is.by D fun f fd F => F.ok sc_drop_decree (fun vs H Q E h => ?_) (fun cdv A outer s H vs Q E hr h => ?_)
  · obtain ⟨_, _, _, _, _, _, _, _, rfl, _⟩ := h
    rfl
  · obtain ⟨A0, dx, L, M, zs, st, p, m, rfl, hA, ok, q⟩ := h
    have hp := hA.ins
    refine ⟨_, (pss_cons (ps_if (pt_not (pt_val (pe_is I_has_place (hr.mono (by decide)) rfl (pa_cons (pv 0) (pa_cons (pv 1) pa_nil))))) (pss_one (ps_ret (pe_lst (pa_cons (pe_cst T.g_NONE_SUCH rfl) pa_nil)))) pss_nil)
    (pss_cons (ps_set (i := 3) sc_drop_decree.nd rfl (Or.inl rfl) (pe_ix ix_list (pe_fld (pv 0) rfl) (pv 1) (fun _ _ => rfl)))
    (pss_cons (ps_if (PW.pt (pw_or (pt_cmpR op_eq (pv 2) pe_int (nomark _)) (pw_or1 (pt_not (pt_val (pe_is I_has_decree_from (hr.mono (by decide)) rfl (pa_cons (pv 3) (pa_cons (pv 2) pa_nil)))))))) (pss_one (ps_ret (pe_lst (pa_cons (pe_cst T.g_NO_SUCH_DECREE rfl) pa_nil)))) pss_nil)
    (pss_cons (ps_expr (pe_is I_take_decree (hr.mono (by decide)) rfl (pa_cons (pv 3) (pa_cons (pv 2) pa_nil))))
    (pss_one (ps_ret (pe_lst (pa_cons (pe_callB call_len_seq (by rfl) T.n_len PySem.boot_len (pa_cons (pe_fld (pv 3) rfl) pa_nil)) pa_nil)))))))), ?_⟩
    simp only [tSeq, tAsg, tOp, tUn, tVar, tC, rI0, rI, rU, rEq, rNe, gName, tIfS, tTest, tB, tAnd, tOr, tNot, tAndV, tOrV, tNotV, tChain, tRet, tRetN, tNext, tDrop, tCall, tCons, tNil, tLst, tFld, sFld, scal_int, L2.start, List.map_cons, List.map_nil, List.length_cons, List.length_nil, List.replicate_succ, List.replicate_zero, List.cons_append, List.nil_append, List.append_nil, List.getElem?_cons_zero, List.getElem?_cons_succ, List.set_cons_zero, List.set_cons_succ, Option.some.injEq, V.int.injEq, V.bl.injEq, V.ref.injEq, HO.ins.injEq, HO.lst.injEq, List.cons.injEq, and_true, true_and, and_assoc, exists_and_left, exists_eq_left', exists_eq_left, exists_eq_right, Nat.reduceSub, Nat.zero_add, Nat.reduceAdd, Nat.reduceLT, decide_eq_true_eq, decide_true, decide_false, Bool.false_eq_true, if_true, if_false, ite_true, ite_false, nox_K, cxOf_K, hp, cAtlas.cl, cAtlas.n_places, cAtlas.n_kept, lk_Atlas_places, lk_Atlas_kept, pn_Atlas_places, pn_Atlas_kept, pu_Atlas_places, pu_Atlas_kept]
    refine ⟨A0, dx, L, M, zs, st, p, rfl, hA, ?_⟩
    simp only [tSeq, tAsg, tOp, tUn, tVar, tC, rI0, rI, rU, rEq, rNe, gName, tIfS, tTest, tB, tAnd, tOr, tNot, tAndV, tOrV, tNotV, tChain, tRet, tRetN, tNext, tDrop, tCall, tCons, tNil, tLst, tFld, sFld, scal_int, L2.start, List.map_cons, List.map_nil, List.length_cons, List.length_nil, List.replicate_succ, List.replicate_zero, List.cons_append, List.nil_append, List.append_nil, List.getElem?_cons_zero, List.getElem?_cons_succ, List.set_cons_zero, List.set_cons_succ, Option.some.injEq, V.int.injEq, V.bl.injEq, V.ref.injEq, HO.ins.injEq, HO.lst.injEq, List.cons.injEq, and_true, true_and, and_assoc, exists_and_left, exists_eq_left', exists_eq_left, exists_eq_right, Nat.reduceSub, Nat.zero_add, Nat.reduceAdd, Nat.reduceLT, decide_eq_true_eq, decide_true, decide_false, Bool.false_eq_true, if_true, if_false, ite_true, ite_false, nox_K, cxOf_K, hp, cAtlas.cl, cAtlas.n_places, cAtlas.n_kept, lk_Atlas_places, lk_Atlas_kept, pn_Atlas_places, pn_Atlas_kept, pu_Atlas_places, pu_Atlas_kept]
    by_cases hpl : p < st.places.length
    · obtain ⟨y, hy, hym, hPy, ey⟩ := hA.get hpl
      rw [decide_eq_true hpl, if_neg (by decide)]
      refine ixl (j := p) (.inl (.inl hA.lst)) (v := V.ref y.1) (by rw [List.getElem?_map, hy]; rfl) ?_
      have es : Cl02.step st (.drop p m) = if m = 0 ∨ y.2.any (fun (d : Decree) => d.from_ == m) = false then (st, [-4]) else ({ st with places := st.places.set p (y.2.filter fun (d : Decree) => d.from_ != m) }, [(y.2.length : Int) - 1]) := placeOf_some ey
      rw [es] at q
      have okp := ok.places _ (List.mem_of_getElem? ey)
      by_cases hm : m = 0
      · rw [if_pos (by omega)]
        rw [if_pos (.inl hm)] at q
        exact ⟨by decide, fun r nr => q.stay hA (fun b o h => h) nr rfl⟩
      · rw [if_neg (by omega)]
        refine ⟨y.1, y.2, m, rfl, hPy, okp.few, fun H1 s1 => ⟨_, rfl, ?_⟩⟩
        cases ha : y.2.any (fun (d : Decree) => d.from_ == m) with
        | false =>
          rw [if_pos (by decide)]
          rw [if_pos (.inr ha)] at q
          exact ⟨by decide, fun r nr => q.stay hA s1 nr rfl⟩
        | true =>
          rw [if_neg (by decide)]
          rw [if_neg (fun z => z.elim hm fun w => by rw [ha] at w; cases w)] at q
          refine ⟨y.1, y.2, m, rfl, hPy.same s1, okp.few, fun H2 hP2 b2 => ?_⟩
          obtain ⟨dx2, l2, zs2, hp2, hl2, ez2, _⟩ := id hP2
          simp only [tSeq, tAsg, tOp, tUn, tVar, tC, rI0, rI, rU, rEq, rNe, gName, tIfS, tTest, tB, tAnd, tOr, tNot, tAndV, tOrV, tNotV, tChain, tRet, tRetN, tNext, tDrop, tCall, tCons, tNil, tLst, tFld, sFld, scal_int, L2.start, List.map_cons, List.map_nil, List.length_cons, List.length_nil, List.replicate_succ, List.replicate_zero, List.cons_append, List.nil_append, List.append_nil, List.getElem?_cons_zero, List.getElem?_cons_succ, List.set_cons_zero, List.set_cons_succ, Option.some.injEq, V.int.injEq, V.bl.injEq, V.ref.injEq, HO.ins.injEq, HO.lst.injEq, List.cons.injEq, and_true, true_and, and_assoc, exists_and_left, exists_eq_left', exists_eq_left, exists_eq_right, Nat.reduceSub, Nat.zero_add, Nat.reduceAdd, Nat.reduceLT, decide_eq_true_eq, decide_true, decide_false, Bool.false_eq_true, if_true, if_false, ite_true, ite_false, nox_K, cxOf_K, hp2, tCB, cPlace.cl, cPlace.n_decrees, lk_Place_decrees, pn_Place_decrees, pu_Place_decrees]
          refine ⟨_, .inl (.inl (.inl hl2)), by decide, fun r nr => ?_⟩
          have bt : ButT y.1 H H2 := (Same.butT s1).trans b2.t
          obtain ⟨dx0, l0, zs0, hp0, _⟩ := hPy.same s1
          have tb2 : LamX.Tabs [(k.Tb, lamName)] H2 := tabs_but b2 (fun ps z => by
            rw [hp0] at z
            cases z) (fun c n z => by
            rw [hp0] at z
            unfold LamX.CodeO at z
            cases z) (hA.tabs.ext s1)
          refine q _ r _ ((hA.set ok hy hP2 bt tb2).same (same_new nr)) (fun w hw => .inl ?_) (fun b o n h t => same_new nr _ _ (frP hym bt b o n h t)) (notL_butT bt (fun xs h => by
            have h' := s1 _ _ h
            rw [hp0] at h'
            cases h') nr) ?_
          · rw [← set_fst hy (y.2.filter fun d => d.from_ != m)]
            exact List.mem_map_of_mem hw
          · have e1 := drop_len okp.srt ha
            have e2 : (refs zs2).length = (y.2.filter fun d => d.from_ != m).length := by
              rw [refs, List.length_map, ← ez2, List.length_map]
            rw [upd_same, e2]
            show some (HO.lst [V.int (((y.2.filter fun d => d.from_ != m).length : Nat) : Int)]) = some (HO.lst [V.int ((y.2.length : Int) - 1)])
            rw [show (((y.2.filter fun d => d.from_ != m).length : Nat) : Int) = (y.2.length : Int) - 1 by omega]
    · rw [decide_eq_false hpl, if_pos (by decide)]
      have es : Cl02.step st (.drop p m) = (st, [-3]) := placeOf_none hpl
      rw [es] at q
      exact ⟨by decide, fun r nr => q.stay hA (fun b o h => h) nr rfl⟩
theorem ok_tell_offset (T : Txt mg) (cAtlas : IsAtlas K mg k.A) (I_has_place : Is P w K mg base 1 "has_place" ["atlas", "number"] (spHasPlace k)) (I_is_moment : Is P w K mg base 1 "is_moment" ["number"] spIsMoment) (I_ahead_at : Is P w K mg base 7 "ahead_at" ["place", "moment"] (spAheadAt k.T k.S k.D k.P))
    (D : Def K mg "tell_offset" s_tell_offset ["atlas", "number", "moment"]) : Is P w K mg base 8 "tell_offset" ["atlas", "number", "moment"] (spTellOffset k) := by
  refine Is.by D fun f fd F => F.ok sc_tell_offset (fun vs H Q E h => ?_) (fun cdv A outer s H vs Q E hr h => ?_)
  · obtain ⟨_, _, _, _, _, _, _, _, rfl, _⟩ := h
    rfl
  · obtain ⟨A0, dx, L, M, zs, st, p, u, rfl, hA, ok, q⟩ := h
    have hp := hA.ins
    refine ⟨_, (pss_cons (ps_if (pt_not (pt_val (pe_is I_has_place (hr.mono (by decide)) rfl (pa_cons (pv 0) (pa_cons (pv 1) pa_nil))))) (pss_one (ps_ret (pe_lst (pa_cons (pe_cst T.g_NONE_SUCH rfl) pa_nil)))) pss_nil)
    (pss_cons (ps_if (pt_not (pt_val (pe_is I_is_moment (hr.mono (by decide)) rfl (pa_cons (pv 2) pa_nil)))) (pss_one (ps_ret (pe_lst (pa_cons (pe_cst T.g_OUT_OF_BOUNDS rfl) pa_nil)))) pss_nil)
    (pss_one (ps_ret (pe_lst (pa_cons (pe_op op_add (pe_cst T.g_OFFSET_ANSWERED_FOR_NONE rfl) (pe_is I_ahead_at (hr.mono (by decide)) rfl (pa_cons (pe_ix ix_list (pe_fld (pv 0) rfl) (pv 1) (fun _ _ => rfl)) (pa_cons (pv 2) pa_nil)))) pa_nil)))))), ?_⟩
    simp only [tSeq, tAsg, tOp, tUn, tVar, tC, rI0, rI, rU, rEq, rNe, gName, tIfS, tTest, tB, tAnd, tOr, tNot, tAndV, tOrV, tNotV, tChain, tRet, tRetN, tNext, tDrop, tCall, tCons, tNil, tLst, tFld, sFld, scal_int, L2.start, List.map_cons, List.map_nil, List.length_cons, List.length_nil, List.replicate_succ, List.replicate_zero, List.cons_append, List.nil_append, List.append_nil, List.getElem?_cons_zero, List.getElem?_cons_succ, List.set_cons_zero, List.set_cons_succ, Option.some.injEq, V.int.injEq, V.bl.injEq, V.ref.injEq, HO.ins.injEq, HO.lst.injEq, List.cons.injEq, and_true, true_and, and_assoc, exists_and_left, exists_eq_left', exists_eq_left, exists_eq_right, Nat.reduceSub, Nat.zero_add, Nat.reduceAdd, Nat.reduceLT, decide_eq_true_eq, decide_true, decide_false, Bool.false_eq_true, if_true, if_false, ite_true, ite_false, nox_K, cxOf_K, hp, cAtlas.cl, cAtlas.n_places, cAtlas.n_kept, lk_Atlas_places, lk_Atlas_kept, pn_Atlas_places, pn_Atlas_kept, pu_Atlas_places, pu_Atlas_kept]
    refine ⟨A0, dx, L, M, zs, st, p, rfl, hA, ?_⟩
    simp only [tSeq, tAsg, tOp, tUn, tVar, tC, rI0, rI, rU, rEq, rNe, gName, tIfS, tTest, tB, tAnd, tOr, tNot, tAndV, tOrV, tNotV, tChain, tRet, tRetN, tNext, tDrop, tCall, tCons, tNil, tLst, tFld, sFld, scal_int, L2.start, List.map_cons, List.map_nil, List.length_cons, List.length_nil, List.replicate_succ, List.replicate_zero, List.cons_append, List.nil_append, List.append_nil, List.getElem?_cons_zero, List.getElem?_cons_succ, List.set_cons_zero, List.set_cons_succ, Option.some.injEq, V.int.injEq, V.bl.injEq, V.ref.injEq, HO.ins.injEq, HO.lst.injEq, List.cons.injEq, and_true, true_and, and_assoc, exists_and_left, exists_eq_left', exists_eq_left, exists_eq_right, Nat.reduceSub, Nat.zero_add, Nat.reduceAdd, Nat.reduceLT, decide_eq_true_eq, decide_true, decide_false, Bool.false_eq_true, if_true, if_false, ite_true, ite_false, nox_K, cxOf_K, hp, cAtlas.cl, cAtlas.n_places, cAtlas.n_kept, lk_Atlas_places, lk_Atlas_kept, pn_Atlas_places, pn_Atlas_kept, pu_Atlas_places, pu_Atlas_kept]
    by_cases hpl : p < st.places.length
    · obtain ⟨y, hy, hym, hPy, ey⟩ := hA.get hpl
      rw [decide_eq_true hpl, if_neg (by decide)]
      have es : Cl02.step st (.offset p u) = (st, if 52596000 ≤ u then [-1] else [1000 + Cl02.offsetAt y.2 u]) := placeOf_some ey
      rw [es] at q
      refine ⟨(u : Int), rfl, ?_⟩
      simp only [tSeq, tAsg, tOp, tUn, tVar, tC, rI0, rI, rU, rEq, rNe, gName, tIfS, tTest, tB, tAnd, tOr, tNot, tAndV, tOrV, tNotV, tChain, tRet, tRetN, tNext, tDrop, tCall, tCons, tNil, tLst, tFld, sFld, scal_int, L2.start, List.map_cons, List.map_nil, List.length_cons, List.length_nil, List.replicate_succ, List.replicate_zero, List.cons_append, List.nil_append, List.append_nil, List.getElem?_cons_zero, List.getElem?_cons_succ, List.set_cons_zero, List.set_cons_succ, Option.some.injEq, V.int.injEq, V.bl.injEq, V.ref.injEq, HO.ins.injEq, HO.lst.injEq, List.cons.injEq, and_true, true_and, and_assoc, exists_and_left, exists_eq_left', exists_eq_left, exists_eq_right, Nat.reduceSub, Nat.zero_add, Nat.reduceAdd, Nat.reduceLT, decide_eq_true_eq, decide_true, decide_false, Bool.false_eq_true, if_true, if_false, ite_true, ite_false, nox_K, cxOf_K, hp, cAtlas.cl, cAtlas.n_places, cAtlas.n_kept, lk_Atlas_places, lk_Atlas_kept, pn_Atlas_places, pn_Atlas_kept, pu_Atlas_places, pu_Atlas_kept]
      have em : decide ((0 : Int) ≤ (u : Int) ∧ (u : Int) < 52596000) = decide (u < 52596000) := decide_eq_decide.mpr (by omega)
      rw [em]
      by_cases hm : u < 52596000
      · rw [decide_eq_true hm, if_neg (by decide)]
        rw [if_neg (Nat.not_le.mpr hm)] at q
        refine ixl (j := p) (.inl (.inl hA.lst)) (v := V.ref y.1) (by rw [List.getElem?_map, hy]; rfl) ?_
        refine ⟨y.1, y.2, u, rfl, hPy, ok.places _ (List.mem_of_getElem? ey), ?_⟩
        simp only [tSeq, tAsg, tOp, tUn, tVar, tC, rI0, rI, rU, rEq, rNe, gName, tIfS, tTest, tB, tAnd, tOr, tNot, tAndV, tOrV, tNotV, tChain, tRet, tRetN, tNext, tDrop, tCall, tCons, tNil, tLst, tFld, sFld, scal_int, L2.start, List.map_cons, List.map_nil, List.length_cons, List.length_nil, List.replicate_succ, List.replicate_zero, List.cons_append, List.nil_append, List.append_nil, List.getElem?_cons_zero, List.getElem?_cons_succ, List.set_cons_zero, List.set_cons_succ, Option.some.injEq, V.int.injEq, V.bl.injEq, V.ref.injEq, HO.ins.injEq, HO.lst.injEq, List.cons.injEq, and_true, true_and, and_assoc, exists_and_left, exists_eq_left', exists_eq_left, exists_eq_right, Nat.reduceSub, Nat.zero_add, Nat.reduceAdd, Nat.reduceLT, decide_eq_true_eq, decide_true, decide_false, Bool.false_eq_true, if_true, if_false, ite_true, ite_false, nox_K, cxOf_K]
        exact ⟨by decide, fun r nr => q.stay hA (fun b o h => h) nr rfl⟩
      · rw [decide_eq_false hm, if_pos (by decide)]
        rw [if_pos (Nat.le_of_not_lt hm)] at q
        exact ⟨by decide, fun r nr => q.stay hA (fun b o h => h) nr rfl⟩
    · rw [decide_eq_false hpl, if_pos (by decide)]
      have es : Cl02.step st (.offset p u) = (st, [-3]) := placeOf_none hpl
      rw [es] at q
      exact ⟨by decide, fun r nr => q.stay hA (fun b o h => h) nr rfl⟩
theorem ok_add_summer (T : Txt mg) (cAtlas : IsAtlas K mg k.A) (cTurn : IsTurn K mg k.T) (cSummer : IsSummer K mg k.S) (cDecree : IsDecree K mg k.D) (I_has_place : Is P w K mg base 1 "has_place" ["atlas", "number"] (spHasPlace k)) (I_is_moment : Is P w K mg base 1 "is_moment" ["number"] spIsMoment)
    (I_is_offset : Is P w K mg base 1 "is_offset" ["number"] spIsOffset) (I_makes_summer : Is P w K mg base 3 "makes_summer" ["more", "begins", "ends"] spMakesSummer) (I_Turn : IsI P w K mg base 1 k.T ["self", "row"] (spTurnInit K k.T)) (I_Summer : IsI P w K mg base 1 k.S ["self", "more", "begins", "ends"] (spSummerInit k.S))
    (I_Decree : IsI P w K mg base 1 k.D ["self", "moment", "offset", "summer"] (spDecreeInit k.D)) (I_lay_down : Is P w K mg base 5 "lay_down" ["place", "decree"] (spLayDown k)) (D : Def K mg "add_summer" s_add_summer ["atlas", "number", "moment", "offset", "more", "begins", "ends"]) :
    Is P w K mg base 6 "add_summer" ["atlas", "number", "moment", "offset", "more", "begins", "ends"] (spAddSummer k) := by
  refine Is.by D fun f fd F => F.ok sc_add_summer (fun vs H Q E h => ?_) (fun cdv A outer s H vs Q E hr h => ?_)
  · obtain ⟨_, _, _, _, _, _, _, _, _, _, _, _, _, _, rfl, _⟩ := h
    rfl
  · obtain ⟨A0, dx, L, M, zs, st, p, m, z, x, pa, pb, a, b, rfl, ha, hb, hA, ok, q⟩ := h
    have hp := hA.ins
    refine ⟨_, (pss_cons (ps_if (pt_not (pt_val (pe_is I_has_place (hr.mono (by decide)) rfl (pa_cons (pv 0) (pa_cons (pv 1) pa_nil))))) (pss_one (ps_ret (pe_lst (pa_cons (pe_cst T.g_NONE_SUCH rfl) pa_nil)))) pss_nil)
    (pss_cons (ps_if (pt_not (PW.pt (pw_and (pt_val (pe_is I_is_moment (hr.mono (by decide)) rfl (pa_cons (pv 2) pa_nil))) (pw_and (pt_val (pe_is I_is_offset (hr.mono (by decide)) rfl (pa_cons (pv 3) pa_nil))) (pw_and1 (pt_val (pe_is I_makes_summer (hr.mono (by decide)) rfl (pa_cons (pv 4) (pa_cons (pv 5) (pa_cons (pv 6) pa_nil)))))))))) (pss_one (ps_ret (pe_lst (pa_cons (pe_cst T.g_OUT_OF_BOUNDS rfl) pa_nil)))) pss_nil)
    (pss_cons (ps_set (i := 7) sc_add_summer.nd rfl (Or.inl rfl) (pe_mk I_Summer cSummer.at_ (hr.mono (by decide)) rfl (pa_cons (pv 4) (pa_cons (pe_mk I_Turn cTurn.at_ (hr.mono (by decide)) rfl (pa_cons (pv 5) pa_nil)) (pa_cons (pe_mk I_Turn cTurn.at_ (hr.mono (by decide)) rfl (pa_cons (pv 6) pa_nil)) pa_nil)))))
    (pss_one (ps_ret (pe_is I_lay_down (hr.mono (by decide)) rfl (pa_cons (pe_ix ix_list (pe_fld (pv 0) rfl) (pv 1) (fun _ _ => rfl)) (pa_cons (pe_mk I_Decree cDecree.at_ (hr.mono (by decide)) rfl (pa_cons (pv 2) (pa_cons (pv 3) (pa_cons (pv 7) pa_nil)))) pa_nil)))))))), ?_⟩
    simp only [tSeq, tAsg, tOp, tUn, tVar, tC, rI0, rI, rU, rEq, rNe, gName, tIfS, tTest, tB, tAnd, tOr, tNot, tAndV, tOrV, tNotV, tChain, tRet, tRetN, tNext, tDrop, tCall, tCons, tNil, tLst, tFld, sFld, scal_int, L2.start, List.map_cons, List.map_nil, List.length_cons, List.length_nil, List.replicate_succ, List.replicate_zero, List.cons_append, List.nil_append, List.append_nil, List.getElem?_cons_zero, List.getElem?_cons_succ, List.set_cons_zero, List.set_cons_succ, Option.some.injEq, V.int.injEq, V.bl.injEq, V.ref.injEq, HO.ins.injEq, HO.lst.injEq, List.cons.injEq, and_true, true_and, and_assoc, exists_and_left, exists_eq_left', exists_eq_left, exists_eq_right, Nat.reduceSub, Nat.zero_add, Nat.reduceAdd, Nat.reduceLT, decide_eq_true_eq, decide_true, decide_false, Bool.false_eq_true, if_true, if_false, ite_true, ite_false, nox_K, cxOf_K, hp, cAtlas.cl, cAtlas.n_places, cAtlas.n_kept, lk_Atlas_places, lk_Atlas_kept, pn_Atlas_places, pn_Atlas_kept, pu_Atlas_places, pu_Atlas_kept]
    refine ⟨A0, dx, L, M, zs, st, p, rfl, hA, ?_⟩
    simp only [tSeq, tAsg, tOp, tUn, tVar, tC, rI0, rI, rU, rEq, rNe, gName, tIfS, tTest, tB, tAnd, tOr, tNot, tAndV, tOrV, tNotV, tChain, tRet, tRetN, tNext, tDrop, tCall, tCons, tNil, tLst, tFld, sFld, scal_int, L2.start, List.map_cons, List.map_nil, List.length_cons, List.length_nil, List.replicate_succ, List.replicate_zero, List.cons_append, List.nil_append, List.append_nil, List.getElem?_cons_zero, List.getElem?_cons_succ, List.set_cons_zero, List.set_cons_succ, Option.some.injEq, V.int.injEq, V.bl.injEq, V.ref.injEq, HO.ins.injEq, HO.lst.injEq, List.cons.injEq, and_true, true_and, and_assoc, exists_and_left, exists_eq_left', exists_eq_left, exists_eq_right, Nat.reduceSub, Nat.zero_add, Nat.reduceAdd, Nat.reduceLT, decide_eq_true_eq, decide_true, decide_false, Bool.false_eq_true, if_true, if_false, ite_true, ite_false, nox_K, cxOf_K, hp, cAtlas.cl, cAtlas.n_places, cAtlas.n_kept, lk_Atlas_places, lk_Atlas_kept, pn_Atlas_places, pn_Atlas_kept, pu_Atlas_places, pu_Atlas_kept]
    by_cases hpl : p < st.places.length
    · obtain ⟨y, hy, hym, hPy, ey⟩ := hA.get hpl
      rw [decide_eq_true hpl, if_neg (by decide)]
      have em : decide ((0 : Int) ≤ (m : Int) ∧ (m : Int) < 52596000) = decide (m < 52596000) := decide_eq_decide.mpr (by omega)
      refine ⟨(m : Int), rfl, _, rfl, ?_⟩
      rw [em]
      by_cases hm : m < 52596000
      · rw [decide_eq_true hm, if_pos rfl]
        refine ⟨z, rfl, _, rfl, ?_⟩
        cases ho : Cl02.isOffset z with
        | false =>
          rw [if_neg (by decide), if_pos (by decide)]
          rw [summer_out ey (.inr ho)] at q
          exact ⟨by decide, fun r nr => q.stay hA (fun b o h => h) nr rfl⟩
        | true =>
          rw [if_pos rfl]
          refine ⟨x, pa, pb, a, b, rfl, ha, hb, fun H1 s1 => ⟨_, rfl, ?_⟩⟩
          cases hst : sumTold x a b with
          | false =>
            rw [if_pos (by decide)]
            rw [summer_bad ey hst] at q
            exact ⟨by decide, fun r nr => q.stay hA s1 nr rfl⟩
          | true =>
            rw [if_neg (by decide)]
            obtain ⟨ta, tb, eta, etb, hc, est⟩ := summer_good (s := st) (p := p) (m := m) (z := z) hst
            rw [est] at q
            simp only [tSeq, tAsg, tOp, tUn, tVar, tC, rI0, rI, rU, rEq, rNe, gName, tIfS, tTest, tB, tAnd, tOr, tNot, tAndV, tOrV, tNotV, tChain, tRet, tRetN, tNext, tDrop, tCall, tCons, tNil, tLst, tFld, sFld, scal_int, L2.start, List.map_cons, List.map_nil, List.length_cons, List.length_nil, List.replicate_succ, List.replicate_zero, List.cons_append, List.nil_append, List.append_nil, List.getElem?_cons_zero, List.getElem?_cons_succ, List.set_cons_zero, List.set_cons_succ, Option.some.injEq, V.int.injEq, V.bl.injEq, V.ref.injEq, HO.ins.injEq, HO.lst.injEq, List.cons.injEq, and_true, true_and, and_assoc, exists_and_left, exists_eq_left', exists_eq_left, exists_eq_right, Nat.reduceSub, Nat.zero_add, Nat.reduceAdd, Nat.reduceLT, decide_eq_true_eq, decide_true, decide_false, Bool.false_eq_true, if_true, if_false, ite_true, ite_false, nox_K, cxOf_K, tMake]
            have ha1 := s1 _ _ ha
            refine fun c dc nc ndc nec => ⟨c, dc, pa, a, ta, rfl, upd_same, sql_made ha1 nc ndc, ne_of_none ha1 nc, eta, fun H2 h2 k2 => ⟨rfl, ?_⟩⟩
            have s2 := same_made nc ndc k2
            have hb2 := s2 _ _ (s1 _ _ hb)
            refine fun e de ne nde nee => ⟨e, de, pb, b, tb, rfl, upd_same, sql_made hb2 ne nde, ne_of_none hb2 ne, etb, fun H3 h3 k3 => ⟨rfl, ?_⟩⟩
            have s3 := same_made ne nde k3
            refine fun g dg ng ndg neg => ⟨g, dg, _, _, _, rfl, upd_same, fun H4 h4 k4 => ⟨rfl, ?_⟩⟩
            have s4 := same_made ng ndg k4
            have sA : Same H H4 := fun b o h => s4 _ _ (s3 _ _ (s2 _ _ (s1 _ _ h)))
            have hA4 := hA.same sA
            refine ⟨k.A, dx, _, hA4.ins, cAtlas.cl, cAtlas.n_places, _, lk_Atlas_places, ?_⟩
            refine ixl (j := p) (.inl (.inl hA4.lst)) (v := V.ref y.1) (by rw [List.getElem?_map, hy]; rfl) ?_
            refine fun i di ni ndi nei => ⟨i, di, _, _, _, rfl, upd_same, fun H5 h5 k5 => ⟨rfl, ?_⟩⟩
            have s5 := same_made ni ndi k5
            refine lay_post q hA ok hy ey (fun w => ?_) (fun b o h => s5 _ _ (sA _ _ h)) ⟨di, .ref g, h5, g, rfl, ?_⟩
            · rcases w with w | w
              · exact absurd hm (Nat.not_lt.mpr w)
              · rw [show Cl02.isOffset z = false from w] at ho
                cases ho
            · exact ⟨dg, c, e, s5 _ _ h4, ⟨dc, s5 _ _ (s4 _ _ (s3 _ _ h2))⟩, ⟨de, s5 _ _ (s4 _ _ h3)⟩⟩
      · rw [decide_eq_false hm, if_neg (by decide), if_pos (by decide)]
        rw [summer_out ey (.inl (Nat.le_of_not_lt hm))] at q
        exact ⟨by decide, fun r nr => q.stay hA (fun b o h => h) nr rfl⟩
    · rw [decide_eq_false hpl, if_pos (by decide)]
      have es : Cl02.step st (.summer p m z x a b) = (st, [-3]) := by
        show (match Cl02.turnOf a, Cl02.turnOf b with
          | some a, some b => if x = 0 ∨ 120 < x ∨ a.month = b.month then Cl02.placeOf st p fun _ => (st, [-1]) else Cl02.decreed st p ⟨m, z, some (x, a, b)⟩
          | _, _ => Cl02.placeOf st p fun _ => (st, [-1])) = _
        split
        · split
          · exact placeOf_none hpl
          · exact decreed_none hpl
        · exact placeOf_none hpl
      rw [es] at q
      exact ⟨by decide, fun r nr => q.stay hA (fun b o h => h) nr rfl⟩
theorem ok_date_and_time (T : Txt mg) (I_date_of : Is P w K mg base 2 "date_of" ["day"] spDateOf) (I_weekday_of : Is P w K mg base 1 "weekday_of" ["day"] spWeekday) (D : Def K mg "date_and_time" s_date_and_time ["shown"]) : Is P w K mg base 3 "date_and_time" ["shown"] spDateTime := by
  refine Is.by D fun f fd F => F.ok sc_date_and_time (fun vs H Q E h => ?_) (fun cdv A outer s H vs Q E hr h => ?_)
  · obtain ⟨_, rfl, _⟩ := h
    rfl
  · obtain ⟨l, rfl, l0, l1, q⟩ := h
    refine ⟨_, (pss_cons (ps_set (i := 1) sc_date_and_time.nd rfl (Or.inl rfl) (pe_op op_fdiv (pv 0) (pe_cst T.g_MINUTES_OF_DAY rfl)))
    (pss_one (ps_ret (pe_op op_cat (pe_is I_date_of (hr.mono (by decide)) rfl (pa_cons (pv 1) pa_nil)) (pe_lst (pa_cons (pe_op op_mod (pv 0) (pe_cst T.g_MINUTES_OF_DAY rfl)) (pa_cons (pe_is I_weekday_of (hr.mono (by decide)) rfl (pa_cons (pv 1) pa_nil)) pa_nil))))))), ?_⟩
    simp only [tSeq, tAsg, tOp, tUn, tVar, tC, rI0, rI, rU, rEq, rNe, gName, tIfS, tTest, tB, tAnd, tOr, tNot, tAndV, tOrV, tNotV, tChain, tRet, tRetN, tNext, tDrop, tCall, tCons, tNil, tLst, tFld, sFld, scal_int, L2.start, List.map_cons, List.map_nil, List.length_cons, List.length_nil, List.replicate_succ, List.replicate_zero, List.cons_append, List.nil_append, List.append_nil, List.getElem?_cons_zero, List.getElem?_cons_succ, List.set_cons_zero, List.set_cons_succ, Option.some.injEq, V.int.injEq, V.bl.injEq, V.ref.injEq, HO.ins.injEq, HO.lst.injEq, List.cons.injEq, and_true, true_and, and_assoc, exists_and_left, exists_eq_left', exists_eq_left, exists_eq_right, Nat.reduceSub, Nat.zero_add, Nat.reduceAdd, Nat.reduceLT, decide_eq_true_eq, decide_true, decide_false, Bool.false_eq_true, if_true, if_false, ite_true, ite_false, nox_K, cxOf_K]
    have ed : l / 1440 = ((l.toNat / 1440 : Nat) : Int) := by omega
    refine ⟨⟨by decide, by decide⟩, l.toNat / 1440, by rw [ed], by omega, fun c nc => ⟨by decide, l / 1440, rfl, by decide, fun e ne => ?_⟩⟩
    have hc : upd (upd H c (.lst [.int (2000 + (Cl01.yearOf (l.toNat / 1440) : Int)), .int (Cl01.monthOf (l.toNat / 1440)), .int (Cl01.domOf (l.toNat / 1440))])) e (.lst [V.int (l % 1440), V.int ((l / 1440 + 5) % 7 + 1)]) c = some (.lst [.int (2000 + (Cl01.yearOf (l.toNat / 1440) : Int)), .int (Cl01.monthOf (l.toNat / 1440)), .int (Cl01.domOf (l.toNat / 1440))]) := by
      rw [upd_ne (ne_of_none upd_same ne), upd_same]
    refine ⟨c, e, _, _, rfl, rfl, hc, upd_same, by show 3 + 2 ≤ sizeLine; decide, fun r nr => ?_⟩
    have s1 : Same H (upd (upd H c (.lst [.int (2000 + (Cl01.yearOf (l.toNat / 1440) : Int)), .int (Cl01.monthOf (l.toNat / 1440)), .int (Cl01.domOf (l.toNat / 1440))])) e (.lst [V.int (l % 1440), V.int ((l / 1440 + 5) % 7 + 1)])) := fun b o h => same_new ne _ _ (same_new nc _ _ h)
    refine q _ r (fun b o h => same_new nr _ _ (s1 _ _ h)) (s1.free nr) ?_
    rw [upd_same]
    unfold dateTold Cl01.weekday
    have e1 : ((l.toNat % 1440 : Nat) : Int) = l % 1440 := by omega
    have e2 : (((l.toNat / 1440 + 5) % 7 : Nat) : Int) + 1 = (l / 1440 + 5) % 7 + 1 := by omega
    rw [e1, e2]
    rfl
theorem ok_tell_moments (T : Txt mg) (cAtlas : IsAtlas K mg k.A) (I_has_place : Is P w K mg base 1 "has_place" ["atlas", "number"] (spHasPlace k)) (I_moments_showing : Is P w K mg base 9 "moments_showing" ["place", "shown"] (spMoments k.T k.S k.D k.P))
    (D : Def K mg "tell_moments" s_tell_moments ["atlas", "number", "shown"]) : Is P w K mg base 10 "tell_moments" ["atlas", "number", "shown"] (spTellMoments k) := by
  refine Is.by D fun f fd F => F.ok sc_tell_moments (fun vs H Q E h => ?_) (fun cdv A outer s H vs Q E hr h => ?_)
  · obtain ⟨_, _, _, _, _, _, _, _, rfl, _⟩ := h
    rfl
  · obtain ⟨A0, dx, L, M, zs, st, p, l, rfl, hA, ok, q⟩ := h
    have hp := hA.ins
    refine ⟨_, (pss_cons (ps_if (pt_not (pt_val (pe_is I_has_place (hr.mono (by decide)) rfl (pa_cons (pv 0) (pa_cons (pv 1) pa_nil))))) (pss_one (ps_ret (pe_lst (pa_cons (pe_cst T.g_NONE_SUCH rfl) pa_nil)))) pss_nil)
    (pss_cons (ps_set (i := 3) sc_tell_moments.nd rfl (Or.inl rfl) (pe_is I_moments_showing (hr.mono (by decide)) rfl (pa_cons (pe_ix ix_list (pe_fld (pv 0) rfl) (pv 1) (fun _ _ => rfl)) (pa_cons (pv 2) pa_nil))))
    (pss_one (ps_ret (pe_op op_cat (pe_lst (pa_cons (pe_callB call_len_seq (by rfl) T.n_len PySem.boot_len (pa_cons (pv 3) pa_nil)) pa_nil)) (pv 3)))))), ?_⟩
    simp only [tSeq, tAsg, tOp, tUn, tVar, tC, rI0, rI, rU, rEq, rNe, gName, tIfS, tTest, tB, tAnd, tOr, tNot, tAndV, tOrV, tNotV, tChain, tRet, tRetN, tNext, tDrop, tCall, tCons, tNil, tLst, tFld, sFld, scal_int, L2.start, List.map_cons, List.map_nil, List.length_cons, List.length_nil, List.replicate_succ, List.replicate_zero, List.cons_append, List.nil_append, List.append_nil, List.getElem?_cons_zero, List.getElem?_cons_succ, List.set_cons_zero, List.set_cons_succ, Option.some.injEq, V.int.injEq, V.bl.injEq, V.ref.injEq, HO.ins.injEq, HO.lst.injEq, List.cons.injEq, and_true, true_and, and_assoc, exists_and_left, exists_eq_left', exists_eq_left, exists_eq_right, Nat.reduceSub, Nat.zero_add, Nat.reduceAdd, Nat.reduceLT, decide_eq_true_eq, decide_true, decide_false, Bool.false_eq_true, if_true, if_false, ite_true, ite_false, nox_K, cxOf_K, hp, cAtlas.cl, cAtlas.n_places, cAtlas.n_kept, lk_Atlas_places, lk_Atlas_kept, pn_Atlas_places, pn_Atlas_kept, pu_Atlas_places, pu_Atlas_kept]
    refine ⟨A0, dx, L, M, zs, st, p, rfl, hA, ?_⟩
    simp only [tSeq, tAsg, tOp, tUn, tVar, tC, rI0, rI, rU, rEq, rNe, gName, tIfS, tTest, tB, tAnd, tOr, tNot, tAndV, tOrV, tNotV, tChain, tRet, tRetN, tNext, tDrop, tCall, tCons, tNil, tLst, tFld, sFld, scal_int, L2.start, List.map_cons, List.map_nil, List.length_cons, List.length_nil, List.replicate_succ, List.replicate_zero, List.cons_append, List.nil_append, List.append_nil, List.getElem?_cons_zero, List.getElem?_cons_succ, List.set_cons_zero, List.set_cons_succ, Option.some.injEq, V.int.injEq, V.bl.injEq, V.ref.injEq, HO.ins.injEq, HO.lst.injEq, List.cons.injEq, and_true, true_and, and_assoc, exists_and_left, exists_eq_left', exists_eq_left, exists_eq_right, Nat.reduceSub, Nat.zero_add, Nat.reduceAdd, Nat.reduceLT, decide_eq_true_eq, decide_true, decide_false, Bool.false_eq_true, if_true, if_false, ite_true, ite_false, nox_K, cxOf_K, hp, cAtlas.cl, cAtlas.n_places, cAtlas.n_kept, lk_Atlas_places, lk_Atlas_kept, pn_Atlas_places, pn_Atlas_kept, pu_Atlas_places, pu_Atlas_kept]
    by_cases hpl : p < st.places.length
    · obtain ⟨y, hy, hym, hPy, ey⟩ := hA.get hpl
      rw [decide_eq_true hpl, if_neg (by decide)]
      have es : Cl02.step st (.moments p l) = (st, ((Cl02.momentsOf y.2 l).length : Int) :: (Cl02.momentsOf y.2 l).map fun (u : Nat) => (u : Int)) := placeOf_some ey
      rw [es] at q
      refine ixl (j := p) (.inl (.inl hA.lst)) (v := V.ref y.1) (by rw [List.getElem?_map, hy]; rfl) ?_
      refine ⟨y.1, y.2, l, rfl, hPy, ok.places _ (List.mem_of_getElem? ey), fun H1 r1 s1 h1 => ?_⟩
      simp only [tSeq, tAsg, tOp, tUn, tVar, tC, rI0, rI, rU, rEq, rNe, gName, tIfS, tTest, tB, tAnd, tOr, tNot, tAndV, tOrV, tNotV, tChain, tRet, tRetN, tNext, tDrop, tCall, tCons, tNil, tLst, tFld, sFld, scal_int, L2.start, List.map_cons, List.map_nil, List.length_cons, List.length_nil, List.replicate_succ, List.replicate_zero, List.cons_append, List.nil_append, List.append_nil, List.getElem?_cons_zero, List.getElem?_cons_succ, List.set_cons_zero, List.set_cons_succ, Option.some.injEq, V.int.injEq, V.bl.injEq, V.ref.injEq, HO.ins.injEq, HO.lst.injEq, List.cons.injEq, and_true, true_and, and_assoc, exists_and_left, exists_eq_left', exists_eq_left, exists_eq_right, Nat.reduceSub, Nat.zero_add, Nat.reduceAdd, Nat.reduceLT, decide_eq_true_eq, decide_true, decide_false, Bool.false_eq_true, if_true, if_false, ite_true, ite_false, nox_K, cxOf_K, tCB, rCat]
      have lm := len_moments (ok.places _ (List.mem_of_getElem? ey)) l
      refine ⟨_, .inl (.inl (.inl h1)), by decide, fun c nc => ⟨_, upd_same, _, by rw [upd_ne (ne_of_none h1 nc)]; exact h1, ?_, fun r nr => ?_⟩⟩
      · rw [List.length_map, List.length_singleton]
        exact Nat.le_trans (Nat.add_le_add_left lm 1) (by decide)
      · refine q.stay hA (fun b o h => same_new nc _ _ (s1 _ _ h)) nr ?_
        rw [List.length_map, natV, intV, List.map_cons, List.map_map]
        rfl
    · rw [decide_eq_false hpl, if_pos (by decide)]
      have es : Cl02.step st (.moments p l) = (st, [-3]) := placeOf_none hpl
      rw [es] at q
      exact ⟨by decide, fun r nr => q.stay hA (fun b o h => h) nr rfl⟩
theorem face_in {l : Int} (h0 : 0 ≤ l) (h1 : l < 52596000) : Cl02.face l = l :: dateTold l := by
  unfold Cl02.face
  rw [if_neg (show ¬ (l < 0 ∨ (Cl02.MOMENTS : Int) ≤ l) from fun z => by
    have : (Cl02.MOMENTS : Int) = 52596000 := rfl
    omega)]
  rfl
theorem face_out {l : Int} (h : ¬ (0 ≤ l ∧ l < 52596000)) : Cl02.face l = [l] := by
  unfold Cl02.face
  rw [if_pos (show l < 0 ∨ (Cl02.MOMENTS : Int) ≤ l from by
    have : (Cl02.MOMENTS : Int) = 52596000 := rfl
    omega)]
theorem ok_shown_with_date (I_is_moment : Is P w K mg base 1 "is_moment" ["number"] spIsMoment) (I_shown_at : Is P w K mg base 8 "shown_at" ["place", "moment"] (spShownAt k.T k.S k.D k.P)) (I_date_and_time : Is P w K mg base 3 "date_and_time" ["shown"] spDateTime)
    (D : Def K mg "shown_with_date" s_shown_with_date ["place", "moment"]) : Is P w K mg base 9 "shown_with_date" ["place", "moment"] (spShownDate k) := by
  refine Is.by D fun f fd F => F.ok sc_shown_with_date (fun vs H Q E h => ?_) (fun cdv A outer s H vs Q E hr h => ?_)
  · obtain ⟨_, _, _, rfl, _⟩ := h
    rfl
  · obtain ⟨p, ds, u, rfl, hP, ok, q⟩ := h
    refine ⟨_, (pss_cons (ps_set (i := 2) sc_shown_with_date.nd rfl (Or.inl rfl) (pe_is I_shown_at (hr.mono (by decide)) rfl (pa_cons (pv 0) (pa_cons (pv 1) pa_nil))))
    (pss_cons (ps_if (pt_not (pt_val (pe_is I_is_moment (hr.mono (by decide)) rfl (pa_cons (pv 2) pa_nil)))) (pss_one (ps_ret (pe_lst (pa_cons pe_int (pa_cons (pv 2) pa_nil))))) pss_nil)
    (pss_one (ps_ret (pe_op op_cat (pe_lst (pa_cons pe_int (pa_cons (pv 2) pa_nil))) (pe_is I_date_and_time (hr.mono (by decide)) rfl (pa_cons (pv 2) pa_nil))))))), ?_⟩
    simp only [tSeq, tAsg, tOp, tUn, tVar, tC, rI0, rI, rU, rEq, rNe, gName, tIfS, tTest, tB, tAnd, tOr, tNot, tAndV, tOrV, tNotV, tChain, tRet, tRetN, tNext, tDrop, tCall, tCons, tNil, tLst, tFld, sFld, scal_int, L2.start, List.map_cons, List.map_nil, List.length_cons, List.length_nil, List.replicate_succ, List.replicate_zero, List.cons_append, List.nil_append, List.append_nil, List.getElem?_cons_zero, List.getElem?_cons_succ, List.set_cons_zero, List.set_cons_succ, Option.some.injEq, V.int.injEq, V.bl.injEq, V.ref.injEq, HO.ins.injEq, HO.lst.injEq, List.cons.injEq, and_true, true_and, and_assoc, exists_and_left, exists_eq_left', exists_eq_left, exists_eq_right, Nat.reduceSub, Nat.zero_add, Nat.reduceAdd, Nat.reduceLT, decide_eq_true_eq, decide_true, decide_false, Bool.false_eq_true, if_true, if_false, ite_true, ite_false, nox_K, cxOf_K]
    refine ⟨p, ds, u, rfl, hP, ok, ?_⟩
    simp only [tSeq, tAsg, tOp, tUn, tVar, tC, rI0, rI, rU, rEq, rNe, gName, tIfS, tTest, tB, tAnd, tOr, tNot, tAndV, tOrV, tNotV, tChain, tRet, tRetN, tNext, tDrop, tCall, tCons, tNil, tLst, tFld, sFld, scal_int, L2.start, List.map_cons, List.map_nil, List.length_cons, List.length_nil, List.replicate_succ, List.replicate_zero, List.cons_append, List.nil_append, List.append_nil, List.getElem?_cons_zero, List.getElem?_cons_succ, List.set_cons_zero, List.set_cons_succ, Option.some.injEq, V.int.injEq, V.bl.injEq, V.ref.injEq, HO.ins.injEq, HO.lst.injEq, List.cons.injEq, and_true, true_and, and_assoc, exists_and_left, exists_eq_left', exists_eq_left, exists_eq_right, Nat.reduceSub, Nat.zero_add, Nat.reduceAdd, Nat.reduceLT, decide_eq_true_eq, decide_true, decide_false, Bool.false_eq_true, if_true, if_false, ite_true, ite_false, nox_K, cxOf_K, rCat]
    refine ⟨Cl02.shown ds u, rfl, _, rfl, ?_⟩
    by_cases hl : 0 ≤ Cl02.shown ds u ∧ Cl02.shown ds u < 52596000
    · rw [decide_eq_true hl, if_neg (by decide)]
      rw [face_in hl.1 hl.2] at q
      refine ⟨by decide, fun c nc => ⟨_, rfl, hl.1, hl.2, fun H1 r1 s1 f1 h1 => ?_⟩⟩
      have hc1 := s1 _ _ upd_same
      refine ⟨r1, rfl, _, hc1, _, h1, by show 2 + 5 ≤ sizeLine; decide, fun r nr => q _ r (fun b o h => s1 _ _ (same_new nc _ _ h)) nr⟩
    · rw [decide_eq_false hl, if_pos (by decide)]
      rw [face_out hl] at q
      exact ⟨by decide, fun r nr => q _ r (fun b o h => h) nr⟩
theorem ok_tell_shown (T : Txt mg) (cAtlas : IsAtlas K mg k.A) (I_has_place : Is P w K mg base 1 "has_place" ["atlas", "number"] (spHasPlace k)) (I_is_moment : Is P w K mg base 1 "is_moment" ["number"] spIsMoment) (I_shown_with_date : Is P w K mg base 9 "shown_with_date" ["place", "moment"] (spShownDate k))
    (D : Def K mg "tell_shown" s_tell_shown ["atlas", "number", "moment"]) : Is P w K mg base 10 "tell_shown" ["atlas", "number", "moment"] (spTellShown k) := by
  refine Is.by D fun f fd F => F.ok sc_tell_shown (fun vs H Q E h => ?_) (fun cdv A outer s H vs Q E hr h => ?_)
  · obtain ⟨_, _, _, _, _, _, _, _, rfl, _⟩ := h
    rfl
  · obtain ⟨A0, dx, L, M, zs, st, p, u, rfl, hA, ok, q⟩ := h
    have hp := hA.ins
    refine ⟨_, (pss_cons (ps_if (pt_not (pt_val (pe_is I_has_place (hr.mono (by decide)) rfl (pa_cons (pv 0) (pa_cons (pv 1) pa_nil))))) (pss_one (ps_ret (pe_lst (pa_cons (pe_cst T.g_NONE_SUCH rfl) pa_nil)))) pss_nil)
    (pss_cons (ps_if (pt_not (pt_val (pe_is I_is_moment (hr.mono (by decide)) rfl (pa_cons (pv 2) pa_nil)))) (pss_one (ps_ret (pe_lst (pa_cons (pe_cst T.g_OUT_OF_BOUNDS rfl) pa_nil)))) pss_nil)
    (pss_one (ps_ret (pe_is I_shown_with_date (hr.mono (by decide)) rfl (pa_cons (pe_ix ix_list (pe_fld (pv 0) rfl) (pv 1) (fun _ _ => rfl)) (pa_cons (pv 2) pa_nil))))))), ?_⟩
    simp only [tSeq, tAsg, tOp, tUn, tVar, tC, rI0, rI, rU, rEq, rNe, gName, tIfS, tTest, tB, tAnd, tOr, tNot, tAndV, tOrV, tNotV, tChain, tRet, tRetN, tNext, tDrop, tCall, tCons, tNil, tLst, tFld, sFld, scal_int, L2.start, List.map_cons, List.map_nil, List.length_cons, List.length_nil, List.replicate_succ, List.replicate_zero, List.cons_append, List.nil_append, List.append_nil, List.getElem?_cons_zero, List.getElem?_cons_succ, List.set_cons_zero, List.set_cons_succ, Option.some.injEq, V.int.injEq, V.bl.injEq, V.ref.injEq, HO.ins.injEq, HO.lst.injEq, List.cons.injEq, and_true, true_and, and_assoc, exists_and_left, exists_eq_left', exists_eq_left, exists_eq_right, Nat.reduceSub, Nat.zero_add, Nat.reduceAdd, Nat.reduceLT, decide_eq_true_eq, decide_true, decide_false, Bool.false_eq_true, if_true, if_false, ite_true, ite_false, nox_K, cxOf_K, hp, cAtlas.cl, cAtlas.n_places, cAtlas.n_kept, lk_Atlas_places, lk_Atlas_kept, pn_Atlas_places, pn_Atlas_kept, pu_Atlas_places, pu_Atlas_kept]
    refine ⟨A0, dx, L, M, zs, st, p, rfl, hA, ?_⟩
    simp only [tSeq, tAsg, tOp, tUn, tVar, tC, rI0, rI, rU, rEq, rNe, gName, tIfS, tTest, tB, tAnd, tOr, tNot, tAndV, tOrV, tNotV, tChain, tRet, tRetN, tNext, tDrop, tCall, tCons, tNil, tLst, tFld, sFld, scal_int, L2.start, List.map_cons, List.map_nil, List.length_cons, List.length_nil, List.replicate_succ, List.replicate_zero, List.cons_append, List.nil_append, List.append_nil, List.getElem?_cons_zero, List.getElem?_cons_succ, List.set_cons_zero, List.set_cons_succ, Option.some.injEq, V.int.injEq, V.bl.injEq, V.ref.injEq, HO.ins.injEq, HO.lst.injEq, List.cons.injEq, and_true, true_and, and_assoc, exists_and_left, exists_eq_left', exists_eq_left, exists_eq_right, Nat.reduceSub, Nat.zero_add, Nat.reduceAdd, Nat.reduceLT, decide_eq_true_eq, decide_true, decide_false, Bool.false_eq_true, if_true, if_false, ite_true, ite_false, nox_K, cxOf_K, hp, cAtlas.cl, cAtlas.n_places, cAtlas.n_kept, lk_Atlas_places, lk_Atlas_kept, pn_Atlas_places, pn_Atlas_kept, pu_Atlas_places, pu_Atlas_kept]
    by_cases hpl : p < st.places.length
    · obtain ⟨y, hy, hym, hPy, ey⟩ := hA.get hpl
      rw [decide_eq_true hpl, if_neg (by decide)]
      have es : Cl02.step st (.shows p u) = (st, if 52596000 ≤ u then [-1] else 0 :: Cl02.face (Cl02.shown y.2 u)) := placeOf_some ey
      rw [es] at q
      refine ⟨(u : Int), rfl, ?_⟩
      simp only [tSeq, tAsg, tOp, tUn, tVar, tC, rI0, rI, rU, rEq, rNe, gName, tIfS, tTest, tB, tAnd, tOr, tNot, tAndV, tOrV, tNotV, tChain, tRet, tRetN, tNext, tDrop, tCall, tCons, tNil, tLst, tFld, sFld, scal_int, L2.start, List.map_cons, List.map_nil, List.length_cons, List.length_nil, List.replicate_succ, List.replicate_zero, List.cons_append, List.nil_append, List.append_nil, List.getElem?_cons_zero, List.getElem?_cons_succ, List.set_cons_zero, List.set_cons_succ, Option.some.injEq, V.int.injEq, V.bl.injEq, V.ref.injEq, HO.ins.injEq, HO.lst.injEq, List.cons.injEq, and_true, true_and, and_assoc, exists_and_left, exists_eq_left', exists_eq_left, exists_eq_right, Nat.reduceSub, Nat.zero_add, Nat.reduceAdd, Nat.reduceLT, decide_eq_true_eq, decide_true, decide_false, Bool.false_eq_true, if_true, if_false, ite_true, ite_false, nox_K, cxOf_K, hp, cAtlas.cl, cAtlas.n_places, cAtlas.n_kept, lk_Atlas_places, lk_Atlas_kept, pn_Atlas_places, pn_Atlas_kept, pu_Atlas_places, pu_Atlas_kept]
      have em : decide ((0 : Int) ≤ (u : Int) ∧ (u : Int) < 52596000) = decide (u < 52596000) := decide_eq_decide.mpr (by omega)
      rw [em]
      by_cases hm : u < 52596000
      · rw [decide_eq_true hm, if_neg (by decide)]
        rw [if_neg (Nat.not_le.mpr hm)] at q
        refine ixl (j := p) (.inl (.inl hA.lst)) (v := V.ref y.1) (by rw [List.getElem?_map, hy]; rfl) ?_
        exact ⟨y.1, y.2, u, rfl, hPy, ok.places _ (List.mem_of_getElem? ey), fun H1 r s1 nr => q.stay hA s1 nr rfl⟩
      · rw [decide_eq_false hm, if_pos (by decide)]
        rw [if_pos (Nat.le_of_not_lt hm)] at q
        exact ⟨by decide, fun r nr => q.stay hA (fun b o h => h) nr rfl⟩
    · rw [decide_eq_false hpl, if_pos (by decide)]
      have es : Cl02.step st (.shows p u) = (st, [-3]) := placeOf_none hpl
      rw [es] at q
      exact ⟨by decide, fun r nr => q.stay hA (fun b o h => h) nr rfl⟩
end
end Pc
namespace Pc
open PySem PySem.Spec PyProof.Rows L2 PcR PcM
open Cl02 (Turn Decree State Ans)
/-! ### meant, change, keep, when, there, ahead -/
section
variable {k : Ads} {H H' : Hp} {A dx L M : Addr} {zs : List (Addr × List Decree)} {s : State}
theorem loose_kept {ys : List (Addr × Cl02.Kept)} (hl : H M = some (.lst (ys.map fun y => V.ref y.1))) (h : ∀ y ∈ ys, KeptAt k H zs y.1 y.2) : Loose H M := by
  refine ⟨fun C' dx' fs' h' => ?_, fun z r h' C' dx' fs' hz => ?_⟩
  · rw [hl] at h'
    cases h'
  · rw [hl] at h'
    cases ys with
    | nil => cases h'
    | cons y ys =>
      obtain ⟨dy, pz, h1, _⟩ := h y (List.mem_cons_self ..)
      have e : z = y.1 := by
        injection h' with h'
        injection h' with h'
        injection h' with h' _
        injection h' with h'
        exact h'.symm
      rw [e, h1] at hz
      cases hz
      exact Nat.le_refl _
/-- one thing more is kept -/
theorem AtlasAt.keep (h : AtlasAt k H A dx L M zs s) (ok : OkS s) {ys : List (Addr × Cl02.Kept)} (hM : H M = some (.lst (ys.map fun y => V.ref y.1))) (ey : ys.map (·.2) = s.kept) (hy : ∀ y ∈ ys, KeptAt k H zs y.1 y.2) {x dy pz : Addr} {q : Cl02.Kept} (s2 : Same H H')
    (hx : H' x = some (.ins k.Kp dy [("place", .ref pz), ("shown", .int q.shown)])) (hz : (zs.map (·.1))[q.place]? = some pz) : AtlasAt k (upd H' M (.lst ((ys.map fun y => V.ref y.1) ++ [V.ref x]))) A dx L M zs { s with kept := s.kept ++ [q] } := by
  have h2 := h.same s2
  have hM2 := s2 _ _ hM
  have lo : Loose H M := loose_kept hM hy
  have lo2 : Loose H' M := loose_kept (k := k) (zs := zs) (ys := ys) hM2 fun y m => by
    obtain ⟨dy, pz, a, b⟩ := hy y m
    exact ⟨dy, pz, s2 _ _ a, b⟩
  have nAM : A ≠ M := fun e => by
    have q := h2.ins
    rw [e, hM2] at q
    cases q
  have nxM : x ≠ M := fun e => by
    rw [e, hM2] at hx
    cases hx
  refine ⟨by rw [upd_ne nAM]; exact h2.ins, by rw [upd_ne h.ne2]; exact h2.lst, h.nd, fun y m => PlaceAt.butT But.upd.t lo2 (fun e => ?_) ?_ (h2.at_ y m), h.eq, tabs_but But.upd (fun ps q => ?_) (fun c n q => ?_) h2.tabs, h.ne2, ys ++ [(x, q)], ?_, ?_, fun y m => ?_⟩
  · obtain ⟨dy, l, us, h1, _⟩ := h2.at_ y m
    rw [e, hM2] at h1
    cases h1
  · have okp := ok.places y.2 (by rw [← h.eq]; exact List.mem_map_of_mem m)
    obtain ⟨d, r, e, _⟩ := okp.first
    rw [e]
    exact List.cons_ne_nil _ _
  · rw [hM2] at q
    cases q
  · rw [hM2] at q
    unfold LamX.CodeO at q
    cases q
  · rw [upd_same, List.map_append]
    rfl
  · rw [List.map_append, ey]
    rfl
  · rcases List.mem_append.mp m with m | m
    · obtain ⟨dy, pz, a, b⟩ := hy y m
      refine ⟨dy, pz, ?_, b⟩
      rw [upd_ne fun e => by
        rw [e, hM] at a
        cases a]
      exact s2 _ _ a
    · rw [List.mem_singleton.mp m]
      exact ⟨dy, pz, by rw [upd_ne nxM]; exact hx, hz⟩
theorem AtlasAt.getK (h : AtlasAt k H A dx L M zs s) {n : Nat} (hn : n < s.kept.length) : ∃ (ys : List (Addr × Cl02.Kept)) (y : Addr × Cl02.Kept) (z : Addr × List Decree) (dy : Addr), H M = some (.lst (ys.map fun y => V.ref y.1)) ∧ ys[n]? = some y ∧
    H y.1 = some (.ins k.Kp dy [("place", .ref z.1), ("shown", .int y.2.shown)]) ∧ z ∈ zs ∧ z.2 ∈ s.places ∧ Cl02.keptOf s n = some (z.2, y.2.shown) := by
  obtain ⟨ys, h1, h2, h3⟩ := h.kept
  have ln : n < ys.length := by
    rw [← h2, List.length_map] at hn
    exact hn
  obtain ⟨dy, pz, a, b⟩ := h3 _ (List.getElem_mem ln)
  obtain ⟨z, e1, mz, e2⟩ := map_at b
  have e3 : s.kept[n]? = some (ys[n]).2 := by
    rw [← h2, List.getElem?_map, List.getElem?_eq_getElem ln]
    rfl
  have e4 : s.places[(ys[n]).2.place]? = some z.2 := by
    rw [← h.eq, List.getElem?_map, e1]
    rfl
  refine ⟨ys, ys[n], z, dy, h1, List.getElem?_eq_getElem ln, by rw [← e2]; exact a, mz, List.mem_of_getElem? e4, ?_⟩
  unfold Cl02.keptOf
  rw [e3]
  show (s.places[(ys[n]).2.place]?).map _ = _
  rw [e4]
  rfl
theorem keptOf_none {n : Nat} (hn : ¬ n < s.kept.length) : Cl02.keptOf s n = none := by
  unfold Cl02.keptOf
  rw [List.getElem?_eq_none (Nat.le_of_not_lt hn)]
  rfl
theorem AtlasAt.lenK (h : AtlasAt k H A dx L M zs s) : ∃ ys : List (Addr × Cl02.Kept), H M = some (.lst (ys.map fun y => V.ref y.1)) ∧ ys.map (·.2) = s.kept ∧ (∀ y ∈ ys, KeptAt k H zs y.1 y.2) ∧ (ys.map fun y => V.ref y.1).length = s.kept.length := by
  obtain ⟨ys, h1, h2, h3⟩ := h.kept
  exact ⟨ys, h1, h2, h3, by rw [← h2, List.length_map, List.length_map]⟩
end
def spKeptInit (C : Addr) : Sp := fun vs H Q _ => ∃ (p dx : Addr) (x y : V), vs = [.ref p, x, y] ∧ H p = some (.ins C dx []) ∧
  ∀ H' : Hp, H' p = some (.ins C dx [("place", x), ("shown", y)]) → (∀ b, b ≠ p → H' b = H b) → Q .non H'
def spHasKept (k : Ads) : Sp := fun vs H Q _ => ∃ A dx L M zs s, ∃ n : Nat, vs = [.ref A, .int n] ∧ AtlasAt k H A dx L M zs s ∧ Q (.bl (decide (n < s.kept.length))) H
def spMeantBy (k : Ads) : Sp := fun vs H Q _ => ∃ (p : Addr) (ds : List Decree) (l : Int), vs = [.ref p, .int l] ∧ PlaceAt k.T k.S k.D k.P H p ds ∧ OkP ds ∧ ∀ (H' : Hp) (r : Addr), Same H H' → H' r = none → Q (.ref r) (upd H' r (.lst (intV (Cl02.meantAns ds l))))
def spTellMeant (k : Ads) : Sp := fun vs H Q _ => ∃ A dx L M zs s, ∃ (p : Nat) (l : Int), vs = [.ref A, .int p, .int l] ∧ AtlasAt k H A dx L M zs s ∧ OkS s ∧ Post k H A dx L M zs (Cl02.step s (.meant p l)) Q
def spTellChange (k : Ads) : Sp := fun vs H Q _ => ∃ A dx L M zs s, ∃ (p u : Nat), vs = [.ref A, .int p, .int u] ∧ AtlasAt k H A dx L M zs s ∧ OkS s ∧ Post k H A dx L M zs (Cl02.step s (.change p u)) Q
def spKeep (k : Ads) : Sp := fun vs H Q _ => ∃ A dx L M zs s, ∃ (p : Nat) (l : Int), vs = [.ref A, .int p, .int l] ∧ AtlasAt k H A dx L M zs s ∧ OkS s ∧ Post k H A dx L M zs (Cl02.step s (.keep p l)) Q
def spWhen (k : Ads) : Sp := fun vs H Q _ => ∃ A dx L M zs s, ∃ n : Nat, vs = [.ref A, .int n] ∧ AtlasAt k H A dx L M zs s ∧ OkS s ∧ Post k H A dx L M zs (Cl02.step s (.when n)) Q
def spThere (k : Ads) : Sp := fun vs H Q _ => ∃ A dx L M zs s, ∃ (n p : Nat), vs = [.ref A, .int n, .int p] ∧ AtlasAt k H A dx L M zs s ∧ OkS s ∧ Post k H A dx L M zs (Cl02.step s (.there n p)) Q
def spAhead (k : Ads) : Sp := fun vs H Q _ => ∃ A dx L M zs s, ∃ u : Nat, vs = [.ref A, .int u] ∧ AtlasAt k H A dx L M zs s ∧ OkS s ∧ Post k H A dx L M zs (Cl02.step s (.ahead u)) Q
abbrev s_Kept_init : Stmt := inClass (topS 72) 0
abbrev N_Kept_init : List Str := ["self", "place", "shown"]
theorem sc_Kept_init : FnScope ["self", "place", "shown"] ["self", "place", "shown"] (defScope s_Kept_init) := ⟨rfl, rfl, rfl, by decide +kernel, rfl, by decide +kernel, by decide +kernel⟩
abbrev s_has_kept : Stmt := topS 75
abbrev N_has_kept : List Str := ["atlas", "number"]
theorem sc_has_kept : FnScope ["atlas", "number"] ["atlas", "number"] (defScope s_has_kept) := ⟨rfl, rfl, rfl, by decide +kernel, rfl, by decide +kernel, by decide +kernel⟩
abbrev s_meant_by : Stmt := topS 87
abbrev N_meant_by : List Str := ["place", "shown", "moment"]
theorem sc_meant_by : FnScope ["place", "shown", "moment"] ["place", "shown"] (defScope s_meant_by) := ⟨rfl, rfl, rfl, by decide +kernel, rfl, by decide +kernel, by decide +kernel⟩
abbrev s_tell_meant : Stmt := topS 88
abbrev N_tell_meant : List Str := ["atlas", "number", "shown"]
theorem sc_tell_meant : FnScope ["atlas", "number", "shown"] ["atlas", "number", "shown"] (defScope s_tell_meant) := ⟨rfl, rfl, rfl, by decide +kernel, rfl, by decide +kernel, by decide +kernel⟩
abbrev s_tell_change : Stmt := topS 89
abbrev N_tell_change : List Str := ["atlas", "number", "moment", "place", "change"]
theorem sc_tell_change : FnScope ["atlas", "number", "moment", "place", "change"] ["atlas", "number", "moment"] (defScope s_tell_change) := ⟨rfl, rfl, rfl, by decide +kernel, rfl, by decide +kernel, by decide +kernel⟩
abbrev s_keep_shown : Stmt := topS 90
abbrev N_keep_shown : List Str := ["atlas", "number", "shown"]
theorem sc_keep_shown : FnScope ["atlas", "number", "shown"] ["atlas", "number", "shown"] (defScope s_keep_shown) := ⟨rfl, rfl, rfl, by decide +kernel, rfl, by decide +kernel, by decide +kernel⟩
abbrev s_tell_when : Stmt := topS 91
abbrev N_tell_when : List Str := ["atlas", "number", "kept"]
theorem sc_tell_when : FnScope ["atlas", "number", "kept"] ["atlas", "number"] (defScope s_tell_when) := ⟨rfl, rfl, rfl, by decide +kernel, rfl, by decide +kernel, by decide +kernel⟩
abbrev s_tell_there : Stmt := topS 92
abbrev N_tell_there : List Str := ["atlas", "kept_number", "place_number", "kept", "moment"]
theorem sc_tell_there : FnScope ["atlas", "kept_number", "place_number", "kept", "moment"] ["atlas", "kept_number", "place_number"] (defScope s_tell_there) := ⟨rfl, rfl, rfl, by decide +kernel, rfl, by decide +kernel, by decide +kernel⟩
abbrev s_tell_ahead : Stmt := topS 93
abbrev N_tell_ahead : List Str := ["atlas", "moment", "place"]
theorem sc_tell_ahead : FnScope ["atlas", "moment", "place"] ["atlas", "moment"] (defScope s_tell_ahead) := ⟨rfl, rfl, rfl, by decide +kernel, rfl, by decide +kernel, by decide +kernel⟩
section
variable {P : Program} {w : World} {K : PySem.W.Frag} {mg : Str → Option Value} {base : Heap} {k : Ads}
theorem ok_Kept_init (cKept : IsKept K mg k.Kp) (D : Ini K "Kept.__init__" k.Kp s_Kept_init ["self", "place", "shown"]) : IsI P w K mg base 1 k.Kp ["self", "place", "shown"] (spKeptInit k.Kp) := by
  refine IsI.by D fun f fd F => F.ok sc_Kept_init (fun vs H Q E h => ?_) (fun cdv A outer s H vs Q E hr h => ?_)
  · obtain ⟨_, _, _, _, rfl, _⟩ := h
    rfl
  · obtain ⟨p, dx, x, y, rfl, hp, q⟩ := h
    refine ⟨_, (pss_cons (ps_fld (pv 0) (pv 1) rfl)
    (pss_one (ps_fld (pv 0) (pv 2) rfl))), ?_⟩
    simp only [tSeq, tAsg, tOp, tUn, tVar, tC, rI0, rI, rU, rEq, rNe, gName, tIfS, tTest, tB, tAnd, tOr, tNot, tAndV, tOrV, tNotV, tChain, tRet, tRetN, tNext, tDrop, tCall, tCons, tNil, tLst, tFld, sFld, scal_int, L2.start, List.map_cons, List.map_nil, List.length_cons, List.length_nil, List.replicate_succ, List.replicate_zero, List.cons_append, List.nil_append, List.append_nil, List.getElem?_cons_zero, List.getElem?_cons_succ, List.set_cons_zero, List.set_cons_succ, Option.some.injEq, V.int.injEq, V.bl.injEq, V.ref.injEq, HO.ins.injEq, HO.lst.injEq, List.cons.injEq, and_true, true_and, and_assoc, exists_and_left, exists_eq_left', exists_eq_left, exists_eq_right, Nat.reduceSub, Nat.zero_add, Nat.reduceAdd, Nat.reduceLT, decide_eq_true_eq, decide_true, decide_false, Bool.false_eq_true, if_true, if_false, ite_true, ite_false, nox_K, cxOf_K, hp, upd_same, cKept.cl, cKept.n_place, cKept.n_shown, lk_Kept_place, lk_Kept_shown, pn_Kept_place, pn_Kept_shown, pu_Kept_place, pu_Kept_shown]
    refine q _ upd_same ?_
    intro b hb
    rw [upd_ne hb, upd_ne hb]
theorem ok_has_kept (T : Txt mg) (cAtlas : IsAtlas K mg k.A) (D : Def K mg "has_kept" s_has_kept ["atlas", "number"]) : Is P w K mg base 1 "has_kept" ["atlas", "number"] (spHasKept k) := by
  refine Is.by D fun f fd F => F.ok sc_has_kept (fun vs H Q E h => ?_) (fun cdv A outer s H vs Q E hr h => ?_)
  · obtain ⟨_, _, _, _, _, _, _, rfl, _⟩ := h
    rfl
  · obtain ⟨A0, dx, L, M, zs, st, n, rfl, hA, q⟩ := h
    have hp := hA.ins
    obtain ⟨ys, hM, _, _, eL⟩ := hA.lenK
    refine ⟨_, (pss_one (ps_ret (pe_cmpR op_lt (pv 1) (pe_callB call_len_seq (by rfl) T.n_len PySem.boot_len (pa_cons (pe_fld (pv 0) rfl) pa_nil)) (nomark _)))), ?_⟩
    simp only [tSeq, tAsg, tOp, tUn, tVar, tC, rI0, rI, rU, rEq, rNe, gName, tIfS, tTest, tB, tAnd, tOr, tNot, tAndV, tOrV, tNotV, tChain, tRet, tRetN, tNext, tDrop, tCall, tCons, tNil, tLst, tFld, sFld, scal_int, L2.start, List.map_cons, List.map_nil, List.length_cons, List.length_nil, List.replicate_succ, List.replicate_zero, List.cons_append, List.nil_append, List.append_nil, List.getElem?_cons_zero, List.getElem?_cons_succ, List.set_cons_zero, List.set_cons_succ, Option.some.injEq, V.int.injEq, V.bl.injEq, V.ref.injEq, HO.ins.injEq, HO.lst.injEq, List.cons.injEq, and_true, true_and, and_assoc, exists_and_left, exists_eq_left', exists_eq_left, exists_eq_right, Nat.reduceSub, Nat.zero_add, Nat.reduceAdd, Nat.reduceLT, decide_eq_true_eq, decide_true, decide_false, Bool.false_eq_true, if_true, if_false, ite_true, ite_false, nox_K, cxOf_K, hp, tCB, cAtlas.cl, cAtlas.n_places, cAtlas.n_kept, lk_Atlas_places, lk_Atlas_kept, pn_Atlas_places, pn_Atlas_kept, pu_Atlas_places, pu_Atlas_kept]
    refine ⟨_, .inl (.inl (.inl hM)), ?_⟩
    rw [eL, decide_eq_decide.mpr Int.ofNat_lt]
    exact q
theorem ok_meant_by (T : Txt mg) (I_moment_meant : Is P w K mg base 11 "moment_meant" ["place", "shown"] (spMeant k.T k.S k.D k.P)) (I_shown_at : Is P w K mg base 8 "shown_at" ["place", "moment"] (spShownAt k.T k.S k.D k.P))
    (D : Def K mg "meant_by" s_meant_by ["place", "shown"]) : Is P w K mg base 12 "meant_by" ["place", "shown"] (spMeantBy k) := by
  refine Is.by D fun f fd F => F.ok sc_meant_by (fun vs H Q E h => ?_) (fun cdv A outer s H vs Q E hr h => ?_)
  · obtain ⟨_, _, _, rfl, _⟩ := h
    rfl
  · obtain ⟨p, ds, l, rfl, hP, ok, q⟩ := h
    refine ⟨_, (pss_cons (ps_set (i := 2) sc_meant_by.nd rfl (Or.inl rfl) (pe_is I_moment_meant (hr.mono (by decide)) rfl (pa_cons (pv 0) (pa_cons (pv 1) pa_nil))))
    (pss_cons (ps_if (pt_cmpR op_isN (pv 2) pe_non (nomark _)) (pss_one (ps_ret (pe_lst (pa_cons (pe_cst T.g_NO_MOMENT rfl) pa_nil)))) pss_nil)
    (pss_one (ps_ret (pe_lst (pa_cons (pv 2) (pa_cons (pe_ifExp (pt_cmpR op_eq (pe_is I_shown_at (hr.mono (by decide)) rfl (pa_cons (pv 0) (pa_cons (pv 2) pa_nil))) (pv 1) (nomark _)) pe_int pe_int) pa_nil))))))), ?_⟩
    simp only [tSeq, tAsg, tOp, tUn, tVar, tC, rI0, rI, rU, rEq, rNe, gName, tIfS, tTest, tB, tAnd, tOr, tNot, tAndV, tOrV, tNotV, tChain, tRet, tRetN, tNext, tDrop, tCall, tCons, tNil, tLst, tFld, sFld, scal_int, L2.start, List.map_cons, List.map_nil, List.length_cons, List.length_nil, List.replicate_succ, List.replicate_zero, List.cons_append, List.nil_append, List.append_nil, List.getElem?_cons_zero, List.getElem?_cons_succ, List.set_cons_zero, List.set_cons_succ, Option.some.injEq, V.int.injEq, V.bl.injEq, V.ref.injEq, HO.ins.injEq, HO.lst.injEq, List.cons.injEq, and_true, true_and, and_assoc, exists_and_left, exists_eq_left', exists_eq_left, exists_eq_right, Nat.reduceSub, Nat.zero_add, Nat.reduceAdd, Nat.reduceLT, decide_eq_true_eq, decide_true, decide_false, Bool.false_eq_true, if_true, if_false, ite_true, ite_false, nox_K, cxOf_K]
    refine ⟨p, ds, l, rfl, hP, ok, fun H1 t b s1 e1 e2 => ?_, fun H1 s1 e1 => ?_⟩
    · simp only [tSeq, tAsg, tOp, tUn, tVar, tC, rI0, rI, rU, rEq, rNe, gName, tIfS, tTest, tB, tAnd, tOr, tNot, tAndV, tOrV, tNotV, tChain, tRet, tRetN, tNext, tDrop, tCall, tCons, tNil, tLst, tFld, sFld, scal_int, L2.start, List.map_cons, List.map_nil, List.length_cons, List.length_nil, List.replicate_succ, List.replicate_zero, List.cons_append, List.nil_append, List.append_nil, List.getElem?_cons_zero, List.getElem?_cons_succ, List.set_cons_zero, List.set_cons_succ, Option.some.injEq, V.int.injEq, V.bl.injEq, V.ref.injEq, HO.ins.injEq, HO.lst.injEq, List.cons.injEq, and_true, true_and, and_assoc, exists_and_left, exists_eq_left', exists_eq_left, exists_eq_right, Nat.reduceSub, Nat.zero_add, Nat.reduceAdd, Nat.reduceLT, decide_eq_true_eq, decide_true, decide_false, Bool.false_eq_true, if_true, if_false, ite_true, ite_false, nox_K, cxOf_K, tIf]
      rw [if_neg (show ¬ V.int (t : Int) = V.non from fun z => by cases z)]
      refine ⟨p, ds, t, rfl, hP.same s1, ok, rfl, ?_⟩
      have em : Cl02.meantAns ds l = [(t : Int), if b = true then 1 else 0] := by
        unfold Cl02.meantAns
        rw [e1]
      rw [em] at q
      by_cases hs : Cl02.shown ds t = l
      · rw [decide_eq_true hs] at e2
        subst e2
        rw [if_pos (by rw [hs])]
        exact ⟨by decide, fun r nr => q H1 r s1 nr⟩
      · rw [decide_eq_false hs] at e2
        subst e2
        rw [if_neg fun z => hs (V.int.inj z)]
        exact ⟨by decide, fun r nr => q H1 r s1 nr⟩
    · simp only [tSeq, tAsg, tOp, tUn, tVar, tC, rI0, rI, rU, rEq, rNe, gName, tIfS, tTest, tB, tAnd, tOr, tNot, tAndV, tOrV, tNotV, tChain, tRet, tRetN, tNext, tDrop, tCall, tCons, tNil, tLst, tFld, sFld, scal_int, L2.start, List.map_cons, List.map_nil, List.length_cons, List.length_nil, List.replicate_succ, List.replicate_zero, List.cons_append, List.nil_append, List.append_nil, List.getElem?_cons_zero, List.getElem?_cons_succ, List.set_cons_zero, List.set_cons_succ, Option.some.injEq, V.int.injEq, V.bl.injEq, V.ref.injEq, HO.ins.injEq, HO.lst.injEq, List.cons.injEq, and_true, true_and, and_assoc, exists_and_left, exists_eq_left', exists_eq_left, exists_eq_right, Nat.reduceSub, Nat.zero_add, Nat.reduceAdd, Nat.reduceLT, decide_eq_true_eq, decide_true, decide_false, Bool.false_eq_true, if_true, if_false, ite_true, ite_false, nox_K, cxOf_K]
      have em : Cl02.meantAns ds l = [-6] := by
        unfold Cl02.meantAns
        rw [e1]
      rw [em] at q
      exact ⟨by decide, fun r nr => q H1 r s1 nr⟩
theorem ok_tell_meant (T : Txt mg) (cAtlas : IsAtlas K mg k.A) (I_has_place : Is P w K mg base 1 "has_place" ["atlas", "number"] (spHasPlace k)) (I_meant_by : Is P w K mg base 12 "meant_by" ["place", "shown"] (spMeantBy k))
    (D : Def K mg "tell_meant" s_tell_meant ["atlas", "number", "shown"]) : Is P w K mg base 13 "tell_meant" ["atlas", "number", "shown"] (spTellMeant k) := by
  refine Is.by D fun f fd F => F.ok sc_tell_meant (fun vs H Q E h => ?_) (fun cdv A outer s H vs Q E hr h => ?_)
  · obtain ⟨_, _, _, _, _, _, _, _, rfl, _⟩ := h
    rfl
  · obtain ⟨A0, dx, L, M, zs, st, p, l, rfl, hA, ok, q⟩ := h
    have hp := hA.ins
    refine ⟨_, (pss_cons (ps_if (pt_not (pt_val (pe_is I_has_place (hr.mono (by decide)) rfl (pa_cons (pv 0) (pa_cons (pv 1) pa_nil))))) (pss_one (ps_ret (pe_lst (pa_cons (pe_cst T.g_NONE_SUCH rfl) pa_nil)))) pss_nil)
    (pss_one (ps_ret (pe_is I_meant_by (hr.mono (by decide)) rfl (pa_cons (pe_ix ix_list (pe_fld (pv 0) rfl) (pv 1) (fun _ _ => rfl)) (pa_cons (pv 2) pa_nil)))))), ?_⟩
    simp only [tSeq, tAsg, tOp, tUn, tVar, tC, rI0, rI, rU, rEq, rNe, gName, tIfS, tTest, tB, tAnd, tOr, tNot, tAndV, tOrV, tNotV, tChain, tRet, tRetN, tNext, tDrop, tCall, tCons, tNil, tLst, tFld, sFld, scal_int, L2.start, List.map_cons, List.map_nil, List.length_cons, List.length_nil, List.replicate_succ, List.replicate_zero, List.cons_append, List.nil_append, List.append_nil, List.getElem?_cons_zero, List.getElem?_cons_succ, List.set_cons_zero, List.set_cons_succ, Option.some.injEq, V.int.injEq, V.bl.injEq, V.ref.injEq, HO.ins.injEq, HO.lst.injEq, List.cons.injEq, and_true, true_and, and_assoc, exists_and_left, exists_eq_left', exists_eq_left, exists_eq_right, Nat.reduceSub, Nat.zero_add, Nat.reduceAdd, Nat.reduceLT, decide_eq_true_eq, decide_true, decide_false, Bool.false_eq_true, if_true, if_false, ite_true, ite_false, nox_K, cxOf_K, hp, cAtlas.cl, cAtlas.n_places, cAtlas.n_kept, lk_Atlas_places, lk_Atlas_kept, pn_Atlas_places, pn_Atlas_kept, pu_Atlas_places, pu_Atlas_kept]
    refine ⟨A0, dx, L, M, zs, st, p, rfl, hA, ?_⟩
    simp only [tSeq, tAsg, tOp, tUn, tVar, tC, rI0, rI, rU, rEq, rNe, gName, tIfS, tTest, tB, tAnd, tOr, tNot, tAndV, tOrV, tNotV, tChain, tRet, tRetN, tNext, tDrop, tCall, tCons, tNil, tLst, tFld, sFld, scal_int, L2.start, List.map_cons, List.map_nil, List.length_cons, List.length_nil, List.replicate_succ, List.replicate_zero, List.cons_append, List.nil_append, List.append_nil, List.getElem?_cons_zero, List.getElem?_cons_succ, List.set_cons_zero, List.set_cons_succ, Option.some.injEq, V.int.injEq, V.bl.injEq, V.ref.injEq, HO.ins.injEq, HO.lst.injEq, List.cons.injEq, and_true, true_and, and_assoc, exists_and_left, exists_eq_left', exists_eq_left, exists_eq_right, Nat.reduceSub, Nat.zero_add, Nat.reduceAdd, Nat.reduceLT, decide_eq_true_eq, decide_true, decide_false, Bool.false_eq_true, if_true, if_false, ite_true, ite_false, nox_K, cxOf_K, hp, cAtlas.cl, cAtlas.n_places, cAtlas.n_kept, lk_Atlas_places, lk_Atlas_kept, pn_Atlas_places, pn_Atlas_kept, pu_Atlas_places, pu_Atlas_kept]
    by_cases hpl : p < st.places.length
    · obtain ⟨y, hy, hym, hPy, ey⟩ := hA.get hpl
      rw [decide_eq_true hpl, if_neg (by decide)]
      have es : Cl02.step st (.meant p l) = (st, Cl02.meantAns y.2 l) := placeOf_some ey
      rw [es] at q
      refine ixl (j := p) (.inl (.inl hA.lst)) (v := V.ref y.1) (by rw [List.getElem?_map, hy]; rfl) ?_
      exact ⟨y.1, y.2, l, rfl, hPy, ok.places _ (List.mem_of_getElem? ey), fun H1 r s1 nr => q.stay hA s1 nr rfl⟩
    · rw [decide_eq_false hpl, if_pos (by decide)]
      have es : Cl02.step st (.meant p l) = (st, [-3]) := placeOf_none hpl
      rw [es] at q
      exact ⟨by decide, fun r nr => q.stay hA (fun b o h => h) nr rfl⟩
theorem ok_tell_change (T : Txt mg) (cAtlas : IsAtlas K mg k.A) (I_has_place : Is P w K mg base 1 "has_place" ["atlas", "number"] (spHasPlace k)) (I_is_moment : Is P w K mg base 1 "is_moment" ["number"] spIsMoment) (I_next_change : Is P w K mg base 9 "next_change" ["place", "moment"] (spNextChange k.T k.S k.D k.P))
    (I_ahead_at : Is P w K mg base 7 "ahead_at" ["place", "moment"] (spAheadAt k.T k.S k.D k.P)) (D : Def K mg "tell_change" s_tell_change ["atlas", "number", "moment"]) : Is P w K mg base 10 "tell_change" ["atlas", "number", "moment"] (spTellChange k) := by
  refine Is.by D fun f fd F => F.ok sc_tell_change (fun vs H Q E h => ?_) (fun cdv A outer s H vs Q E hr h => ?_)
  · obtain ⟨_, _, _, _, _, _, _, _, rfl, _⟩ := h
    rfl
  · obtain ⟨A0, dx, L, M, zs, st, p, u, rfl, hA, ok, q⟩ := h
    have hp := hA.ins
    refine ⟨_, (pss_cons (ps_if (pt_not (pt_val (pe_is I_has_place (hr.mono (by decide)) rfl (pa_cons (pv 0) (pa_cons (pv 1) pa_nil))))) (pss_one (ps_ret (pe_lst (pa_cons (pe_cst T.g_NONE_SUCH rfl) pa_nil)))) pss_nil)
    (pss_cons (ps_if (pt_not (pt_val (pe_is I_is_moment (hr.mono (by decide)) rfl (pa_cons (pv 2) pa_nil)))) (pss_one (ps_ret (pe_lst (pa_cons (pe_cst T.g_OUT_OF_BOUNDS rfl) pa_nil)))) pss_nil)
    (pss_cons (ps_set (i := 3) sc_tell_change.nd rfl (Or.inl rfl) (pe_ix ix_list (pe_fld (pv 0) rfl) (pv 1) (fun _ _ => rfl)))
    (pss_cons (ps_set (i := 4) sc_tell_change.nd rfl (Or.inl rfl) (pe_is I_next_change (hr.mono (by decide)) rfl (pa_cons (pv 3) (pa_cons (pv 2) pa_nil))))
    (pss_cons (ps_if (pt_cmpR op_isN (pv 4) pe_non (nomark _)) (pss_one (ps_ret (pe_lst (pa_cons (pe_cst T.g_NO_MOMENT rfl) pa_nil)))) pss_nil)
    (pss_one (ps_ret (pe_lst (pa_cons (pv 4) (pa_cons (pe_is I_ahead_at (hr.mono (by decide)) rfl (pa_cons (pv 3) (pa_cons (pe_op op_sub (pv 4) pe_int) pa_nil))) (pa_cons (pe_is I_ahead_at (hr.mono (by decide)) rfl (pa_cons (pv 3) (pa_cons (pv 4) pa_nil))) pa_nil))))))))))), ?_⟩
    simp only [tSeq, tAsg, tOp, tUn, tVar, tC, rI0, rI, rU, rEq, rNe, gName, tIfS, tTest, tB, tAnd, tOr, tNot, tAndV, tOrV, tNotV, tChain, tRet, tRetN, tNext, tDrop, tCall, tCons, tNil, tLst, tFld, sFld, scal_int, L2.start, List.map_cons, List.map_nil, List.length_cons, List.length_nil, List.replicate_succ, List.replicate_zero, List.cons_append, List.nil_append, List.append_nil, List.getElem?_cons_zero, List.getElem?_cons_succ, List.set_cons_zero, List.set_cons_succ, Option.some.injEq, V.int.injEq, V.bl.injEq, V.ref.injEq, HO.ins.injEq, HO.lst.injEq, List.cons.injEq, and_true, true_and, and_assoc, exists_and_left, exists_eq_left', exists_eq_left, exists_eq_right, Nat.reduceSub, Nat.zero_add, Nat.reduceAdd, Nat.reduceLT, decide_eq_true_eq, decide_true, decide_false, Bool.false_eq_true, if_true, if_false, ite_true, ite_false, nox_K, cxOf_K, hp, cAtlas.cl, cAtlas.n_places, cAtlas.n_kept, lk_Atlas_places, lk_Atlas_kept, pn_Atlas_places, pn_Atlas_kept, pu_Atlas_places, pu_Atlas_kept]
    refine ⟨A0, dx, L, M, zs, st, p, rfl, hA, ?_⟩
    simp only [tSeq, tAsg, tOp, tUn, tVar, tC, rI0, rI, rU, rEq, rNe, gName, tIfS, tTest, tB, tAnd, tOr, tNot, tAndV, tOrV, tNotV, tChain, tRet, tRetN, tNext, tDrop, tCall, tCons, tNil, tLst, tFld, sFld, scal_int, L2.start, List.map_cons, List.map_nil, List.length_cons, List.length_nil, List.replicate_succ, List.replicate_zero, List.cons_append, List.nil_append, List.append_nil, List.getElem?_cons_zero, List.getElem?_cons_succ, List.set_cons_zero, List.set_cons_succ, Option.some.injEq, V.int.injEq, V.bl.injEq, V.ref.injEq, HO.ins.injEq, HO.lst.injEq, List.cons.injEq, and_true, true_and, and_assoc, exists_and_left, exists_eq_left', exists_eq_left, exists_eq_right, Nat.reduceSub, Nat.zero_add, Nat.reduceAdd, Nat.reduceLT, decide_eq_true_eq, decide_true, decide_false, Bool.false_eq_true, if_true, if_false, ite_true, ite_false, nox_K, cxOf_K, hp, cAtlas.cl, cAtlas.n_places, cAtlas.n_kept, lk_Atlas_places, lk_Atlas_kept, pn_Atlas_places, pn_Atlas_kept, pu_Atlas_places, pu_Atlas_kept]
    by_cases hpl : p < st.places.length
    · obtain ⟨y, hy, hym, hPy, ey⟩ := hA.get hpl
      have okp := ok.places _ (List.mem_of_getElem? ey)
      rw [decide_eq_true hpl, if_neg (by decide)]
      have es : Cl02.step st (.change p u) = (st, if 52596000 ≤ u then [-1] else match Cl02.nextChange y.2 u with
        | none => [-6]
        | some y => [(y.1 : Int), y.2.1, y.2.2]) := placeOf_some ey
      rw [es] at q
      refine ⟨(u : Int), rfl, ?_⟩
      simp only [tSeq, tAsg, tOp, tUn, tVar, tC, rI0, rI, rU, rEq, rNe, gName, tIfS, tTest, tB, tAnd, tOr, tNot, tAndV, tOrV, tNotV, tChain, tRet, tRetN, tNext, tDrop, tCall, tCons, tNil, tLst, tFld, sFld, scal_int, L2.start, List.map_cons, List.map_nil, List.length_cons, List.length_nil, List.replicate_succ, List.replicate_zero, List.cons_append, List.nil_append, List.append_nil, List.getElem?_cons_zero, List.getElem?_cons_succ, List.set_cons_zero, List.set_cons_succ, Option.some.injEq, V.int.injEq, V.bl.injEq, V.ref.injEq, HO.ins.injEq, HO.lst.injEq, List.cons.injEq, and_true, true_and, and_assoc, exists_and_left, exists_eq_left', exists_eq_left, exists_eq_right, Nat.reduceSub, Nat.zero_add, Nat.reduceAdd, Nat.reduceLT, decide_eq_true_eq, decide_true, decide_false, Bool.false_eq_true, if_true, if_false, ite_true, ite_false, nox_K, cxOf_K, hp, cAtlas.cl, cAtlas.n_places, cAtlas.n_kept, lk_Atlas_places, lk_Atlas_kept, pn_Atlas_places, pn_Atlas_kept, pu_Atlas_places, pu_Atlas_kept]
      have em : decide ((0 : Int) ≤ (u : Int) ∧ (u : Int) < 52596000) = decide (u < 52596000) := decide_eq_decide.mpr (by omega)
      rw [em]
      by_cases hm : u < 52596000
      · rw [decide_eq_true hm, if_neg (by decide)]
        rw [if_neg (Nat.not_le.mpr hm)] at q
        refine ixl (j := p) (.inl (.inl hA.lst)) (v := V.ref y.1) (by rw [List.getElem?_map, hy]; rfl) ?_
        refine ⟨y.1, y.2, u, rfl, hPy, okp, fun H1 t s1 ht => ?_, fun H1 s1 hn => ?_⟩
        · rw [nextChange_some okp hm ht] at q
          simp only [tSeq, tAsg, tOp, tUn, tVar, tC, rI0, rI, rU, rEq, rNe, gName, tIfS, tTest, tB, tAnd, tOr, tNot, tAndV, tOrV, tNotV, tChain, tRet, tRetN, tNext, tDrop, tCall, tCons, tNil, tLst, tFld, sFld, scal_int, L2.start, List.map_cons, List.map_nil, List.length_cons, List.length_nil, List.replicate_succ, List.replicate_zero, List.cons_append, List.nil_append, List.append_nil, List.getElem?_cons_zero, List.getElem?_cons_succ, List.set_cons_zero, List.set_cons_succ, Option.some.injEq, V.int.injEq, V.bl.injEq, V.ref.injEq, HO.ins.injEq, HO.lst.injEq, List.cons.injEq, and_true, true_and, and_assoc, exists_and_left, exists_eq_left', exists_eq_left, exists_eq_right, Nat.reduceSub, Nat.zero_add, Nat.reduceAdd, Nat.reduceLT, decide_eq_true_eq, decide_true, decide_false, Bool.false_eq_true, if_true, if_false, ite_true, ite_false, nox_K, cxOf_K]
          rw [if_neg (show ¬ V.int (t : Int) = V.non from fun z => by cases z)]
          have t0 := ht.1.1
          refine ⟨y.1, y.2, t - 1, by rw [show (t : Int) - 1 = ((t - 1 : Nat) : Int) by omega], hPy.same s1, okp, y.1, y.2, t, rfl, hPy.same s1, okp, by decide, fun r nr => q.stay hA s1 nr rfl⟩
        · rw [nextChange_none okp hn] at q
          simp only [tSeq, tAsg, tOp, tUn, tVar, tC, rI0, rI, rU, rEq, rNe, gName, tIfS, tTest, tB, tAnd, tOr, tNot, tAndV, tOrV, tNotV, tChain, tRet, tRetN, tNext, tDrop, tCall, tCons, tNil, tLst, tFld, sFld, scal_int, L2.start, List.map_cons, List.map_nil, List.length_cons, List.length_nil, List.replicate_succ, List.replicate_zero, List.cons_append, List.nil_append, List.append_nil, List.getElem?_cons_zero, List.getElem?_cons_succ, List.set_cons_zero, List.set_cons_succ, Option.some.injEq, V.int.injEq, V.bl.injEq, V.ref.injEq, HO.ins.injEq, HO.lst.injEq, List.cons.injEq, and_true, true_and, and_assoc, exists_and_left, exists_eq_left', exists_eq_left, exists_eq_right, Nat.reduceSub, Nat.zero_add, Nat.reduceAdd, Nat.reduceLT, decide_eq_true_eq, decide_true, decide_false, Bool.false_eq_true, if_true, if_false, ite_true, ite_false, nox_K, cxOf_K]
          exact ⟨by decide, fun r nr => q.stay hA s1 nr rfl⟩
      · rw [decide_eq_false hm, if_pos (by decide)]
        rw [if_pos (Nat.le_of_not_lt hm)] at q
        exact ⟨by decide, fun r nr => q.stay hA (fun b o h => h) nr rfl⟩
    · rw [decide_eq_false hpl, if_pos (by decide)]
      have es : Cl02.step st (.change p u) = (st, [-3]) := placeOf_none hpl
      rw [es] at q
      exact ⟨by decide, fun r nr => q.stay hA (fun b o h => h) nr rfl⟩
theorem ok_keep_shown (T : Txt mg) (cAtlas : IsAtlas K mg k.A) (cKept : IsKept K mg k.Kp) (I_has_place : Is P w K mg base 1 "has_place" ["atlas", "number"] (spHasPlace k)) (I_Kept : IsI P w K mg base 1 k.Kp ["self", "place", "shown"] (spKeptInit k.Kp))
    (D : Def K mg "keep_shown" s_keep_shown ["atlas", "number", "shown"]) : Is P w K mg base 3 "keep_shown" ["atlas", "number", "shown"] (spKeep k) := by
  refine Is.by D fun f fd F => F.ok sc_keep_shown (fun vs H Q E h => ?_) (fun cdv A outer s H vs Q E hr h => ?_)
  · obtain ⟨_, _, _, _, _, _, _, _, rfl, _⟩ := h
    rfl
  · obtain ⟨A0, dx, L, M, zs, st, p, l, rfl, hA, ok, q⟩ := h
    have hp := hA.ins
    refine ⟨_, (pss_cons (ps_if (pt_not (pt_val (pe_is I_has_place (hr.mono (by decide)) rfl (pa_cons (pv 0) (pa_cons (pv 1) pa_nil))))) (pss_one (ps_ret (pe_lst (pa_cons (pe_cst T.g_NONE_SUCH rfl) pa_nil)))) pss_nil)
    (pss_cons (ps_if (pt_cmpR op_ge (pe_callB call_len_seq (by rfl) T.n_len PySem.boot_len (pa_cons (pe_fld (pv 0) rfl) pa_nil)) (pe_cst T.g_MOST_KEPT rfl) (nomark _)) (pss_one (ps_ret (pe_lst (pa_cons (pe_cst T.g_NO_ROOM rfl) pa_nil)))) pss_nil)
    (pss_cons (ps_expr (pe_bm PySem.F.plainAttrs_list PySem.F.slot_list_append PySem.F.type_list_append mt_append (pe_fld (pv 0) rfl) (pa_cons (pe_mk I_Kept cKept.at_ (hr.mono (by decide)) rfl (pa_cons (pe_ix ix_list (pe_fld (pv 0) rfl) (pv 1) (fun _ _ => rfl)) (pa_cons (pv 2) pa_nil))) pa_nil)))
    (pss_one (ps_ret (pe_lst (pa_cons (pe_op op_sub (pe_callB call_len_seq (by rfl) T.n_len PySem.boot_len (pa_cons (pe_fld (pv 0) rfl) pa_nil)) pe_int) pa_nil))))))), ?_⟩
    simp only [tSeq, tAsg, tOp, tUn, tVar, tC, rI0, rI, rU, rEq, rNe, gName, tIfS, tTest, tB, tAnd, tOr, tNot, tAndV, tOrV, tNotV, tChain, tRet, tRetN, tNext, tDrop, tCall, tCons, tNil, tLst, tFld, sFld, scal_int, L2.start, List.map_cons, List.map_nil, List.length_cons, List.length_nil, List.replicate_succ, List.replicate_zero, List.cons_append, List.nil_append, List.append_nil, List.getElem?_cons_zero, List.getElem?_cons_succ, List.set_cons_zero, List.set_cons_succ, Option.some.injEq, V.int.injEq, V.bl.injEq, V.ref.injEq, HO.ins.injEq, HO.lst.injEq, List.cons.injEq, and_true, true_and, and_assoc, exists_and_left, exists_eq_left', exists_eq_left, exists_eq_right, Nat.reduceSub, Nat.zero_add, Nat.reduceAdd, Nat.reduceLT, decide_eq_true_eq, decide_true, decide_false, Bool.false_eq_true, if_true, if_false, ite_true, ite_false, nox_K, cxOf_K, hp, cAtlas.cl, cAtlas.n_places, cAtlas.n_kept, lk_Atlas_places, lk_Atlas_kept, pn_Atlas_places, pn_Atlas_kept, pu_Atlas_places, pu_Atlas_kept]
    refine ⟨A0, dx, L, M, zs, st, p, rfl, hA, ?_⟩
    simp only [tSeq, tAsg, tOp, tUn, tVar, tC, rI0, rI, rU, rEq, rNe, gName, tIfS, tTest, tB, tAnd, tOr, tNot, tAndV, tOrV, tNotV, tChain, tRet, tRetN, tNext, tDrop, tCall, tCons, tNil, tLst, tFld, sFld, scal_int, L2.start, List.map_cons, List.map_nil, List.length_cons, List.length_nil, List.replicate_succ, List.replicate_zero, List.cons_append, List.nil_append, List.append_nil, List.getElem?_cons_zero, List.getElem?_cons_succ, List.set_cons_zero, List.set_cons_succ, Option.some.injEq, V.int.injEq, V.bl.injEq, V.ref.injEq, HO.ins.injEq, HO.lst.injEq, List.cons.injEq, and_true, true_and, and_assoc, exists_and_left, exists_eq_left', exists_eq_left, exists_eq_right, Nat.reduceSub, Nat.zero_add, Nat.reduceAdd, Nat.reduceLT, decide_eq_true_eq, decide_true, decide_false, Bool.false_eq_true, if_true, if_false, ite_true, ite_false, nox_K, cxOf_K, hp, tCB, cAtlas.cl, cAtlas.n_places, cAtlas.n_kept, lk_Atlas_places, lk_Atlas_kept, pn_Atlas_places, pn_Atlas_kept, pu_Atlas_places, pu_Atlas_kept]
    by_cases hpl : p < st.places.length
    · obtain ⟨y, hy, hym, hPy, ey⟩ := hA.get hpl
      obtain ⟨ys, hM, eys, hys, eL⟩ := hA.lenK
      rw [decide_eq_true hpl, if_neg (by decide)]
      have es : Cl02.step st (.keep p l) = if 20 ≤ st.kept.length then (st, [-5]) else ({ st with kept := st.kept ++ [⟨p, l⟩] }, [(st.kept.length : Int)]) := placeOf_some ey
      rw [es] at q
      refine ⟨_, .inl (.inl (.inl hM)), ?_⟩
      rw [eL]
      by_cases h20 : 20 ≤ st.kept.length
      · rw [if_pos h20] at q
        rw [if_pos (by omega)]
        exact ⟨by decide, fun r nr => q.stay hA (fun b o h => h) nr rfl⟩
      · rw [if_neg h20] at q
        rw [if_neg (by omega)]
        simp only [tSeq, tAsg, tOp, tUn, tVar, tC, rI0, rI, rU, rEq, rNe, gName, tIfS, tTest, tB, tAnd, tOr, tNot, tAndV, tOrV, tNotV, tChain, tRet, tRetN, tNext, tDrop, tCall, tCons, tNil, tLst, tFld, sFld, scal_int, L2.start, List.map_cons, List.map_nil, List.length_cons, List.length_nil, List.replicate_succ, List.replicate_zero, List.cons_append, List.nil_append, List.append_nil, List.getElem?_cons_zero, List.getElem?_cons_succ, List.set_cons_zero, List.set_cons_succ, Option.some.injEq, V.int.injEq, V.bl.injEq, V.ref.injEq, HO.ins.injEq, HO.lst.injEq, List.cons.injEq, and_true, true_and, and_assoc, exists_and_left, exists_eq_left', exists_eq_left, exists_eq_right, Nat.reduceSub, Nat.zero_add, Nat.reduceAdd, Nat.reduceLT, decide_eq_true_eq, decide_true, decide_false, Bool.false_eq_true, if_true, if_false, ite_true, ite_false, nox_K, cxOf_K, hp, tBM, tMake, rAppend, cAtlas.cl, cAtlas.n_places, cAtlas.n_kept, lk_Atlas_places, lk_Atlas_kept, pn_Atlas_places, pn_Atlas_kept, pu_Atlas_places, pu_Atlas_kept]
        refine ⟨.inl ⟨rfl, _, .inl (.inl hM)⟩, ixl (j := p) (.inl (.inl hA.lst)) (v := V.ref y.1) (by rw [List.getElem?_map, hy]; rfl) fun x dx' nx ndx hne => ⟨x, dx', _, _, rfl, upd_same, fun H2 hx k2 => ⟨rfl, ?_⟩⟩⟩
        have s2 : Same H H2 := fun b o hb => by
          rw [k2 b (ne_of_none hb nx), upd_ne (ne_of_none hb nx), upd_ne (ne_of_none hb ndx)]
          exact hb
        have hA3 := hA.keep (q := ⟨p, l⟩) ok hM eys hys s2 hx (by rw [List.getElem?_map, hy]; rfl)
        refine ⟨_, s2 _ _ hM, len_line (n := 20) (by rw [eL]; omega), k.A, dx, _, hA3.ins, cAtlas.cl, cAtlas.n_kept, _, lk_Atlas_kept, M, rfl, _, .inl (.inl (.inl upd_same)), by decide, fun r nr => ?_⟩
        refine q _ r _ (hA3.same (same_new nr)) (fun y hy => .inl (List.mem_map_of_mem hy)) (fun b o nb hb _ => same_new nr _ _ ?_) (fun xs hx => ?_) ?_
        · rw [upd_ne (a := M) (b := b) fun e => nb (by rw [e]; exact List.mem_cons_of_mem _ (List.mem_cons_self ..))]
          exact s2 _ _ hb
        · by_cases e : r = M
          · rw [e, upd_same] at nr
            cases nr
          · rw [upd_ne e, s2 _ _ hx] at nr
            cases nr
        · rw [upd_same, List.length_append, eL, List.length_singleton]
          show some (HO.lst [V.int (((st.kept.length + 1 : Nat) : Int) - 1)]) = some (HO.lst [V.int (st.kept.length : Int)])
          rw [show (((st.kept.length + 1 : Nat) : Int) - 1) = (st.kept.length : Int) by omega]
    · rw [decide_eq_false hpl, if_pos (by decide)]
      have es : Cl02.step st (.keep p l) = (st, [-3]) := placeOf_none hpl
      rw [es] at q
      exact ⟨by decide, fun r nr => q.stay hA (fun b o h => h) nr rfl⟩
theorem ok_tell_when (T : Txt mg) (cAtlas : IsAtlas K mg k.A) (cKept : IsKept K mg k.Kp) (I_has_kept : Is P w K mg base 1 "has_kept" ["atlas", "number"] (spHasKept k)) (I_meant_by : Is P w K mg base 12 "meant_by" ["place", "shown"] (spMeantBy k))
    (D : Def K mg "tell_when" s_tell_when ["atlas", "number"]) : Is P w K mg base 13 "tell_when" ["atlas", "number"] (spWhen k) := by
  refine Is.by D fun f fd F => F.ok sc_tell_when (fun vs H Q E h => ?_) (fun cdv A outer s H vs Q E hr h => ?_)
  · obtain ⟨_, _, _, _, _, _, _, rfl, _⟩ := h
    rfl
  · obtain ⟨A0, dx, L, M, zs, st, n, rfl, hA, ok, q⟩ := h
    have hp := hA.ins
    refine ⟨_, (pss_cons (ps_if (pt_not (pt_val (pe_is I_has_kept (hr.mono (by decide)) rfl (pa_cons (pv 0) (pa_cons (pv 1) pa_nil))))) (pss_one (ps_ret (pe_lst (pa_cons (pe_cst T.g_NONE_SUCH rfl) pa_nil)))) pss_nil)
    (pss_cons (ps_set (i := 2) sc_tell_when.nd rfl (Or.inl rfl) (pe_ix ix_list (pe_fld (pv 0) rfl) (pv 1) (fun _ _ => rfl)))
    (pss_one (ps_ret (pe_is I_meant_by (hr.mono (by decide)) rfl (pa_cons (pe_fld (pv 2) rfl) (pa_cons (pe_fld (pv 2) rfl) pa_nil))))))), ?_⟩
    simp only [tSeq, tAsg, tOp, tUn, tVar, tC, rI0, rI, rU, rEq, rNe, gName, tIfS, tTest, tB, tAnd, tOr, tNot, tAndV, tOrV, tNotV, tChain, tRet, tRetN, tNext, tDrop, tCall, tCons, tNil, tLst, tFld, sFld, scal_int, L2.start, List.map_cons, List.map_nil, List.length_cons, List.length_nil, List.replicate_succ, List.replicate_zero, List.cons_append, List.nil_append, List.append_nil, List.getElem?_cons_zero, List.getElem?_cons_succ, List.set_cons_zero, List.set_cons_succ, Option.some.injEq, V.int.injEq, V.bl.injEq, V.ref.injEq, HO.ins.injEq, HO.lst.injEq, List.cons.injEq, and_true, true_and, and_assoc, exists_and_left, exists_eq_left', exists_eq_left, exists_eq_right, Nat.reduceSub, Nat.zero_add, Nat.reduceAdd, Nat.reduceLT, decide_eq_true_eq, decide_true, decide_false, Bool.false_eq_true, if_true, if_false, ite_true, ite_false, nox_K, cxOf_K, hp, cAtlas.cl, cAtlas.n_places, cAtlas.n_kept, lk_Atlas_places, lk_Atlas_kept, pn_Atlas_places, pn_Atlas_kept, pu_Atlas_places, pu_Atlas_kept]
    refine ⟨A0, dx, L, M, zs, st, n, rfl, hA, ?_⟩
    simp only [tSeq, tAsg, tOp, tUn, tVar, tC, rI0, rI, rU, rEq, rNe, gName, tIfS, tTest, tB, tAnd, tOr, tNot, tAndV, tOrV, tNotV, tChain, tRet, tRetN, tNext, tDrop, tCall, tCons, tNil, tLst, tFld, sFld, scal_int, L2.start, List.map_cons, List.map_nil, List.length_cons, List.length_nil, List.replicate_succ, List.replicate_zero, List.cons_append, List.nil_append, List.append_nil, List.getElem?_cons_zero, List.getElem?_cons_succ, List.set_cons_zero, List.set_cons_succ, Option.some.injEq, V.int.injEq, V.bl.injEq, V.ref.injEq, HO.ins.injEq, HO.lst.injEq, List.cons.injEq, and_true, true_and, and_assoc, exists_and_left, exists_eq_left', exists_eq_left, exists_eq_right, Nat.reduceSub, Nat.zero_add, Nat.reduceAdd, Nat.reduceLT, decide_eq_true_eq, decide_true, decide_false, Bool.false_eq_true, if_true, if_false, ite_true, ite_false, nox_K, cxOf_K, hp, cAtlas.cl, cAtlas.n_places, cAtlas.n_kept, lk_Atlas_places, lk_Atlas_kept, pn_Atlas_places, pn_Atlas_kept, pu_Atlas_places, pu_Atlas_kept]
    have es : Cl02.step st (.when n) = (st, match Cl02.keptOf st n with
      | none => [-3]
      | some x => Cl02.meantAns x.1 x.2) := rfl
    rw [es] at q
    by_cases hn : n < st.kept.length
    · obtain ⟨ys, y, z, dy, hM, hy, hk, mz, mp, ek⟩ := hA.getK hn
      rw [ek] at q
      rw [decide_eq_true hn, if_neg (by decide)]
      refine ixl (j := n) (.inl (.inl hM)) (v := V.ref y.1) (by rw [List.getElem?_map, hy]; rfl) ?_
      simp only [tSeq, tAsg, tOp, tUn, tVar, tC, rI0, rI, rU, rEq, rNe, gName, tIfS, tTest, tB, tAnd, tOr, tNot, tAndV, tOrV, tNotV, tChain, tRet, tRetN, tNext, tDrop, tCall, tCons, tNil, tLst, tFld, sFld, scal_int, L2.start, List.map_cons, List.map_nil, List.length_cons, List.length_nil, List.replicate_succ, List.replicate_zero, List.cons_append, List.nil_append, List.append_nil, List.getElem?_cons_zero, List.getElem?_cons_succ, List.set_cons_zero, List.set_cons_succ, Option.some.injEq, V.int.injEq, V.bl.injEq, V.ref.injEq, HO.ins.injEq, HO.lst.injEq, List.cons.injEq, and_true, true_and, and_assoc, exists_and_left, exists_eq_left', exists_eq_left, exists_eq_right, Nat.reduceSub, Nat.zero_add, Nat.reduceAdd, Nat.reduceLT, decide_eq_true_eq, decide_true, decide_false, Bool.false_eq_true, if_true, if_false, ite_true, ite_false, nox_K, cxOf_K, hk, cKept.cl, cKept.n_place, cKept.n_shown, lk_Kept_place, lk_Kept_shown, pn_Kept_place, pn_Kept_shown, pu_Kept_place, pu_Kept_shown]
      exact ⟨z.1, z.2, y.2.shown, rfl, hA.at_ z mz, ok.places _ mp, fun H1 r s1 nr => q.stay hA s1 nr rfl⟩
    · rw [keptOf_none hn] at q
      rw [decide_eq_false hn, if_pos (by decide)]
      exact ⟨by decide, fun r nr => q.stay hA (fun b o h => h) nr rfl⟩
theorem ok_tell_there (T : Txt mg) (cAtlas : IsAtlas K mg k.A) (cKept : IsKept K mg k.Kp) (I_has_kept : Is P w K mg base 1 "has_kept" ["atlas", "number"] (spHasKept k)) (I_has_place : Is P w K mg base 1 "has_place" ["atlas", "number"] (spHasPlace k))
    (I_moment_meant : Is P w K mg base 11 "moment_meant" ["place", "shown"] (spMeant k.T k.S k.D k.P)) (I_shown_with_date : Is P w K mg base 9 "shown_with_date" ["place", "moment"] (spShownDate k))
    (D : Def K mg "tell_there" s_tell_there ["atlas", "kept_number", "place_number"]) : Is P w K mg base 12 "tell_there" ["atlas", "kept_number", "place_number"] (spThere k) := by
  refine Is.by D fun f fd F => F.ok sc_tell_there (fun vs H Q E h => ?_) (fun cdv A outer s H vs Q E hr h => ?_)
  · obtain ⟨_, _, _, _, _, _, _, _, rfl, _⟩ := h
    rfl
  · obtain ⟨A0, dx, L, M, zs, st, n, p, rfl, hA, ok, q⟩ := h
    have hp := hA.ins
    refine ⟨_, (pss_cons (ps_if (pt_not (PW.pt (pw_and (pt_val (pe_is I_has_kept (hr.mono (by decide)) rfl (pa_cons (pv 0) (pa_cons (pv 1) pa_nil)))) (pw_and1 (pt_val (pe_is I_has_place (hr.mono (by decide)) rfl (pa_cons (pv 0) (pa_cons (pv 2) pa_nil)))))))) (pss_one (ps_ret (pe_lst (pa_cons (pe_cst T.g_NONE_SUCH rfl) pa_nil)))) pss_nil)
    (pss_cons (ps_set (i := 3) sc_tell_there.nd rfl (Or.inl rfl) (pe_ix ix_list (pe_fld (pv 0) rfl) (pv 1) (fun _ _ => rfl)))
    (pss_cons (ps_set (i := 4) sc_tell_there.nd rfl (Or.inl rfl) (pe_is I_moment_meant (hr.mono (by decide)) rfl (pa_cons (pe_fld (pv 3) rfl) (pa_cons (pe_fld (pv 3) rfl) pa_nil))))
    (pss_cons (ps_if (pt_cmpR op_isN (pv 4) pe_non (nomark _)) (pss_one (ps_ret (pe_lst (pa_cons (pe_cst T.g_NO_MOMENT rfl) pa_nil)))) pss_nil)
    (pss_one (ps_ret (pe_is I_shown_with_date (hr.mono (by decide)) rfl (pa_cons (pe_ix ix_list (pe_fld (pv 0) rfl) (pv 2) (fun _ _ => rfl)) (pa_cons (pv 4) pa_nil))))))))), ?_⟩
    simp only [tSeq, tAsg, tOp, tUn, tVar, tC, rI0, rI, rU, rEq, rNe, gName, tIfS, tTest, tB, tAnd, tOr, tNot, tAndV, tOrV, tNotV, tChain, tRet, tRetN, tNext, tDrop, tCall, tCons, tNil, tLst, tFld, sFld, scal_int, L2.start, List.map_cons, List.map_nil, List.length_cons, List.length_nil, List.replicate_succ, List.replicate_zero, List.cons_append, List.nil_append, List.append_nil, List.getElem?_cons_zero, List.getElem?_cons_succ, List.set_cons_zero, List.set_cons_succ, Option.some.injEq, V.int.injEq, V.bl.injEq, V.ref.injEq, HO.ins.injEq, HO.lst.injEq, List.cons.injEq, and_true, true_and, and_assoc, exists_and_left, exists_eq_left', exists_eq_left, exists_eq_right, Nat.reduceSub, Nat.zero_add, Nat.reduceAdd, Nat.reduceLT, decide_eq_true_eq, decide_true, decide_false, Bool.false_eq_true, if_true, if_false, ite_true, ite_false, nox_K, cxOf_K, hp, cAtlas.cl, cAtlas.n_places, cAtlas.n_kept, lk_Atlas_places, lk_Atlas_kept, pn_Atlas_places, pn_Atlas_kept, pu_Atlas_places, pu_Atlas_kept]
    refine ⟨A0, dx, L, M, zs, st, n, rfl, hA, _, rfl, ?_⟩
    have es : Cl02.step st (.there n p) = (st, match Cl02.keptOf st n, st.places[p]? with
      | some x, some y => (match Cl02.meant x.1 x.2 with
        | none => [-6]
        | some u => 0 :: Cl02.face (Cl02.shown y u.1))
      | _, _ => [-3]) := rfl
    rw [es] at q
    by_cases hn : n < st.kept.length
    · obtain ⟨ys, y, z, dy, hM, hy, hk, mz, mp, ek⟩ := hA.getK hn
      rw [ek] at q
      rw [decide_eq_true hn, if_pos rfl]
      refine ⟨A0, dx, L, M, zs, st, p, rfl, hA, _, rfl, ?_⟩
      by_cases hpl : p < st.places.length
      · obtain ⟨x, hx, hxm, hPx, ex⟩ := hA.get hpl
        rw [ex] at q
        have q' : Post k H A0 dx L M zs (st, match Cl02.meant z.2 y.2.shown with
          | none => [-6]
          | some u => 0 :: Cl02.face (Cl02.shown x.2 u.1)) Q := q
        clear q
        rw [decide_eq_true hpl, if_neg (by decide)]
        refine ⟨k.A, dx, _, hp, cAtlas.cl, cAtlas.n_kept, _, lk_Atlas_kept, ?_⟩
        refine ixl (j := n) (.inl (.inl hM)) (v := V.ref y.1) (by rw [List.getElem?_map, hy]; rfl) ?_
        simp only [tSeq, tAsg, tOp, tUn, tVar, tC, rI0, rI, rU, rEq, rNe, gName, tIfS, tTest, tB, tAnd, tOr, tNot, tAndV, tOrV, tNotV, tChain, tRet, tRetN, tNext, tDrop, tCall, tCons, tNil, tLst, tFld, sFld, scal_int, L2.start, List.map_cons, List.map_nil, List.length_cons, List.length_nil, List.replicate_succ, List.replicate_zero, List.cons_append, List.nil_append, List.append_nil, List.getElem?_cons_zero, List.getElem?_cons_succ, List.set_cons_zero, List.set_cons_succ, Option.some.injEq, V.int.injEq, V.bl.injEq, V.ref.injEq, HO.ins.injEq, HO.lst.injEq, List.cons.injEq, and_true, true_and, and_assoc, exists_and_left, exists_eq_left', exists_eq_left, exists_eq_right, Nat.reduceSub, Nat.zero_add, Nat.reduceAdd, Nat.reduceLT, decide_eq_true_eq, decide_true, decide_false, Bool.false_eq_true, if_true, if_false, ite_true, ite_false, nox_K, cxOf_K, hk, cKept.cl, cKept.n_place, cKept.n_shown, lk_Kept_place, lk_Kept_shown, pn_Kept_place, pn_Kept_shown, pu_Kept_place, pu_Kept_shown]
        refine ⟨z.1, z.2, y.2.shown, rfl, hA.at_ z mz, ok.places _ mp, fun H1 t b s1 e1 e2 => ?_, fun H1 s1 e1 => ?_⟩
        · rw [e1] at q'
          rw [if_neg (show ¬ V.int (t : Int) = V.non from fun z => by cases z)]
          have hA1 := hA.same s1
          refine ⟨k.A, dx, _, hA1.ins, cAtlas.cl, cAtlas.n_places, _, lk_Atlas_places, ?_⟩
          refine ixl (j := p) (.inl (.inl hA1.lst)) (v := V.ref x.1) (by rw [List.getElem?_map, hx]; rfl) ?_
          exact ⟨x.1, x.2, t, rfl, hA1.at_ x hxm, ok.places _ (List.mem_of_getElem? ex), fun H2 r s2 nr => q'.stay hA (fun b o h => s2 _ _ (s1 _ _ h)) nr rfl⟩
        · rw [e1] at q'
          rw [if_pos rfl]
          exact ⟨by decide, fun r nr => q'.stay hA s1 nr rfl⟩
      · rw [List.getElem?_eq_none (Nat.le_of_not_lt hpl)] at q
        rw [decide_eq_false hpl, if_pos (by decide)]
        exact ⟨by decide, fun r nr => q.stay hA (fun b o h => h) nr rfl⟩
    · rw [keptOf_none hn] at q
      rw [decide_eq_false hn, if_neg (by decide), if_pos (by decide)]
      exact ⟨by decide, fun r nr => q.stay hA (fun b o h => h) nr rfl⟩
theorem ok_tell_ahead (T : Txt mg) (cAtlas : IsAtlas K mg k.A) (I_is_moment : Is P w K mg base 1 "is_moment" ["number"] spIsMoment) (I_ahead_at : Is P w K mg base 7 "ahead_at" ["place", "moment"] (spAheadAt k.T k.S k.D k.P))
    (D : Def K mg "tell_ahead" s_tell_ahead ["atlas", "moment"]) : Is P w K mg base 8 "tell_ahead" ["atlas", "moment"] (spAhead k) := by
  refine Is.by D fun f fd F => F.ok sc_tell_ahead (fun vs H Q E h => ?_) (fun cdv A outer s H vs Q E hr h => ?_)
  · obtain ⟨_, _, _, _, _, _, _, rfl, _⟩ := h
    rfl
  · obtain ⟨A0, dx, L, M, zs, st, u, rfl, hA, ok, q⟩ := h
    have hp := hA.ins
    refine ⟨_, (pss_cons (ps_if (pt_not (pt_val (pe_is I_is_moment (hr.mono (by decide)) rfl (pa_cons (pv 1) pa_nil)))) (pss_one (ps_ret (pe_lst (pa_cons (pe_cst T.g_OUT_OF_BOUNDS rfl) pa_nil)))) pss_nil)
    (pss_one (ps_ret (pe_op op_cat (pe_lst (pa_cons (pe_callB call_len_seq (by rfl) T.n_len PySem.boot_len (pa_cons (pe_fld (pv 0) rfl) pa_nil)) pa_nil)) (pe_lc (tt := tYes) (own := [("place", 2)]) (g := gName 2) rfl sc_tell_ahead.nd (pi_list (pe_fld (pv 0) rfl)) (blkOk_by (N := N_tell_ahead) (sc := defScope s_tell_ahead) (by decide +kernel)) (fun _ _ _ _ _ => pg_name (i := 2) sc_tell_ahead.nd rfl (Or.inl rfl)) (fun _ _ _ _ _ => by exact pts_nil) (fun _ _ _ _ _ => by exact (pe_is I_ahead_at (hr.mono (by decide)) rfl (pa_cons (pv 2) (pa_cons (pv 1) pa_nil))))))))), ?_⟩
    simp only [tSeq, tAsg, tOp, tUn, tVar, tC, rI0, rI, rU, rEq, rNe, gName, tIfS, tTest, tB, tAnd, tOr, tNot, tAndV, tOrV, tNotV, tChain, tRet, tRetN, tNext, tDrop, tCall, tCons, tNil, tLst, tFld, sFld, scal_int, L2.start, List.map_cons, List.map_nil, List.length_cons, List.length_nil, List.replicate_succ, List.replicate_zero, List.cons_append, List.nil_append, List.append_nil, List.getElem?_cons_zero, List.getElem?_cons_succ, List.set_cons_zero, List.set_cons_succ, Option.some.injEq, V.int.injEq, V.bl.injEq, V.ref.injEq, HO.ins.injEq, HO.lst.injEq, List.cons.injEq, and_true, true_and, and_assoc, exists_and_left, exists_eq_left', exists_eq_left, exists_eq_right, Nat.reduceSub, Nat.zero_add, Nat.reduceAdd, Nat.reduceLT, decide_eq_true_eq, decide_true, decide_false, Bool.false_eq_true, if_true, if_false, ite_true, ite_false, nox_K, cxOf_K, hp, cAtlas.cl, cAtlas.n_places, cAtlas.n_kept, lk_Atlas_places, lk_Atlas_kept, pn_Atlas_places, pn_Atlas_kept, pu_Atlas_places, pu_Atlas_kept]
    have es : Cl02.step st (.ahead u) = (st, if 52596000 ≤ u then [-1] else (st.places.length : Int) :: st.places.map fun (p : List Decree) => Cl02.offsetAt p u) := rfl
    rw [es] at q
    refine ⟨(u : Int), rfl, _, rfl, ?_⟩
    have em : decide ((0 : Int) ≤ (u : Int) ∧ (u : Int) < 52596000) = decide (u < 52596000) := decide_eq_decide.mpr (by omega)
    rw [em]
    by_cases hm : u < 52596000
    · rw [decide_eq_true hm, if_neg (by decide)]
      rw [if_neg (Nat.not_le.mpr hm)] at q
      simp only [tSeq, tAsg, tOp, tUn, tVar, tC, rI0, rI, rU, rEq, rNe, gName, tIfS, tTest, tB, tAnd, tOr, tNot, tAndV, tOrV, tNotV, tChain, tRet, tRetN, tNext, tDrop, tCall, tCons, tNil, tLst, tFld, sFld, scal_int, L2.start, List.map_cons, List.map_nil, List.length_cons, List.length_nil, List.replicate_succ, List.replicate_zero, List.cons_append, List.nil_append, List.append_nil, List.getElem?_cons_zero, List.getElem?_cons_succ, List.set_cons_zero, List.set_cons_succ, Option.some.injEq, V.int.injEq, V.bl.injEq, V.ref.injEq, HO.ins.injEq, HO.lst.injEq, List.cons.injEq, and_true, true_and, and_assoc, exists_and_left, exists_eq_left', exists_eq_left, exists_eq_right, Nat.reduceSub, Nat.zero_add, Nat.reduceAdd, Nat.reduceLT, decide_eq_true_eq, decide_true, decide_false, Bool.false_eq_true, if_true, if_false, ite_true, ite_false, nox_K, cxOf_K, hp, tCB, rCat, iList, cAtlas.cl, cAtlas.n_places, cAtlas.n_kept, lk_Atlas_places, lk_Atlas_kept, pn_Atlas_places, pn_Atlas_kept, pu_Atlas_places, pu_Atlas_kept]
      have es2 : (zs.map fun z => V.ref z.1).length = st.places.length := by
        rw [List.length_map, hA.len]
      refine ⟨_, .inl (.inl (.inl hA.lst)), by decide, fun c nc => ?_⟩
      rw [es2]
      have sc := same_new (o := .lst [V.int (st.places.length : Int)]) nc
      have hAc := hA.same sc
      refine ⟨V.ref A0, rfl, A0, k.A, dx, _, _, rfl, hAc.ins, cAtlas.cl, cAtlas.n_places, lk_Atlas_places, L, rfl, ⟨_, .inl (.inl hAc.lst)⟩, fun D nD => ?_⟩
      obtain ⟨N, hN⟩ : ∃ N : Nat → Hp → Prop, N = fun i H2 => Same (upd H c (.lst [V.int (st.places.length : Int)])) H2 ∧ H2 D = some (.lst ((zs.take i).map fun z => V.int (Cl02.offsetAt z.2 u))) := ⟨_, rfl⟩
      refine lc_list (K := K) (a := L) (xs := zs.map fun z => V.ref z.1) N (by rw [hN]; exact ⟨same_new nD, by rw [upd_same]; rfl⟩) (fun i H2 hi h => ?_) (fun i x H2 hx h => ?_) (fun H2 h => ?_)
      · rw [hN] at h
        exact .inl (.inl (h.1 _ _ hAc.lst))
      · obtain ⟨z, e, mz, rfl⟩ := map_at hx
        rw [hN] at h
        obtain ⟨s2, hD⟩ := h
        simp only [tSeq, tAsg, tOp, tUn, tVar, tC, rI0, rI, rU, rEq, rNe, gName, tIfS, tTest, tB, tAnd, tOr, tNot, tAndV, tOrV, tNotV, tChain, tRet, tRetN, tNext, tDrop, tCall, tCons, tNil, tLst, tFld, sFld, scal_int, L2.start, List.map_cons, List.map_nil, List.length_cons, List.length_nil, List.replicate_succ, List.replicate_zero, List.cons_append, List.nil_append, List.append_nil, List.getElem?_cons_zero, List.getElem?_cons_succ, List.set_cons_zero, List.set_cons_succ, Option.some.injEq, V.int.injEq, V.bl.injEq, V.ref.injEq, HO.ins.injEq, HO.lst.injEq, List.cons.injEq, and_true, true_and, and_assoc, exists_and_left, exists_eq_left', exists_eq_left, exists_eq_right, Nat.reduceSub, Nat.zero_add, Nat.reduceAdd, Nat.reduceLT, decide_eq_true_eq, decide_true, decide_false, Bool.false_eq_true, if_true, if_false, ite_true, ite_false, nox_K, cxOf_K, wipe, tYes, blk_K]
        have zl : zs.length ≤ 6 := by
          rw [hA.len]
          exact ok.room
        refine ⟨z.1, z.2, u, rfl, (hAc.at_ z mz).same s2, ok.places _ (by rw [← hA.eq]; exact List.mem_map_of_mem mz), _, hD, len_line (n := 6) ?_, ?_⟩
        · rw [List.length_map]
          exact Nat.le_trans (List.length_take_le' _ _) zl
        · rw [hN]
          refine ⟨same_upd nD s2, ?_⟩
          rw [upd_same, take_one e, List.map_append]
          rfl
      · rw [hN] at h
        obtain ⟨s2, hD⟩ := h
        rw [List.take_of_length_le (by rw [List.length_map]; exact Nat.le_refl _)] at hD
        have zl : zs.length ≤ 6 := by
          rw [hA.len]
          exact ok.room
        refine ⟨D, rfl, _, s2 _ _ upd_same, _, hD, ?_, fun r nr => q.stay hA (fun b o h => s2 _ _ (sc _ _ h)) nr ?_⟩
        · rw [List.length_map, List.length_singleton]
          exact Nat.le_trans (Nat.add_le_add_left zl 1) (by decide)
        · rw [intV, List.map_cons, ← hA.eq, List.map_map, List.map_map]
          rfl
    · rw [decide_eq_false hm, if_pos (by decide)]
      rw [if_pos (Nat.le_of_not_lt hm)] at q
      exact ⟨by decide, fun r nr => q.stay hA (fun b o h => h) nr rfl⟩
end
end Pc
namespace Pc
open PySem PySem.Spec PyProof.Rows L2 PcR PcM
open Cl02 (Turn Decree State Ans)
/-! ### the line of calls -/
theorem cd_shape {c : List (List Int)} {x : Cl02.Call} (h : Cd c x) : ∃ (n : Nat) (xs : List Int) (rows : List (List Int)), c = ((n : Int) :: xs) :: rows ∧ PyCl02.shape n = some (xs.length, rows.length) ∧ xs.length ≤ 10 ∧ rows.length ≤ 10 ∧ n ≤ 12 := by
  cases h with
  | place z => exact ⟨0, [z], [], rfl, rfl, Nat.le_of_ble_eq_true rfl, Nat.le_of_ble_eq_true rfl, by decide⟩
  | decree p m z => exact ⟨1, [p, m, z], [], rfl, rfl, Nat.le_of_ble_eq_true rfl, Nat.le_of_ble_eq_true rfl, by decide⟩
  | summer p m z x a b ha hb => exact ⟨2, [p, m, z, x], [nInts a, nInts b], rfl, rfl, Nat.le_of_ble_eq_true rfl, Nat.le_of_ble_eq_true rfl, by decide⟩
  | drop p m => exact ⟨3, [p, m], [], rfl, rfl, Nat.le_of_ble_eq_true rfl, Nat.le_of_ble_eq_true rfl, by decide⟩
  | offset p m => exact ⟨4, [p, m], [], rfl, rfl, Nat.le_of_ble_eq_true rfl, Nat.le_of_ble_eq_true rfl, by decide⟩
  | shows p m => exact ⟨5, [p, m], [], rfl, rfl, Nat.le_of_ble_eq_true rfl, Nat.le_of_ble_eq_true rfl, by decide⟩
  | moments p m => exact ⟨6, [p, m], [], rfl, rfl, Nat.le_of_ble_eq_true rfl, Nat.le_of_ble_eq_true rfl, by decide⟩
  | meant p m => exact ⟨7, [p, m], [], rfl, rfl, Nat.le_of_ble_eq_true rfl, Nat.le_of_ble_eq_true rfl, by decide⟩
  | change p m => exact ⟨8, [p, m], [], rfl, rfl, Nat.le_of_ble_eq_true rfl, Nat.le_of_ble_eq_true rfl, by decide⟩
  | keep p m => exact ⟨9, [p, m], [], rfl, rfl, Nat.le_of_ble_eq_true rfl, Nat.le_of_ble_eq_true rfl, by decide⟩
  | when m => exact ⟨10, [m], [], rfl, rfl, Nat.le_of_ble_eq_true rfl, Nat.le_of_ble_eq_true rfl, by decide⟩
  | there p m => exact ⟨11, [p, m], [], rfl, rfl, Nat.le_of_ble_eq_true rfl, Nat.le_of_ble_eq_true rfl, by decide⟩
  | ahead m => exact ⟨12, [m], [], rfl, rfl, Nat.le_of_ble_eq_true rfl, Nat.le_of_ble_eq_true rfl, by decide⟩
/-- the module's tuple of shapes -/
def ShT (K : PySem.W.Frag) (mg : Str → Option Value) : Prop := ∃ (a : Addr) (ts : List Addr), mg "SHAPES" = some (.ref a) ∧ (∀ H, SqT K H a (ts.map V.ref)) ∧ ∀ (c n j : Nat), c ≤ 12 → PyCl02.shape c = some (n, j) → ∃ t, ts[c]? = some t ∧ ∀ H, SqT K H t [.int n, .int j]
def spAnswerCall (k : Ads) : Sp := fun vs H Q _ => ∃ A dx L M zs s, ∃ (n : Nat) (xs : List Int) (rows : List (List Int)) (G : Addr) (gz : List (Addr × List Int)) (x : Cl02.Call), vs = [.ref A, .int n, .ref G] ∧ Cd (((n : Int) :: xs) :: rows) x ∧
  H G = some (.lst (intV xs ++ gz.map fun z => V.ref z.1)) ∧ gz.map (·.2) = rows ∧ RowsAt H gz ∧ AtlasAt k H A dx L M zs s ∧ OkS s ∧ Post k H A dx L M zs (Cl02.step s x) Q
def spAnswers (K : PySem.W.Frag) (cs : List (Addr × Addr)) : Sp := fun vs H Q _ => ∃ (a : Addr) (ns : List Int), vs = [.ref a] ∧ SqL K H a (intV ns) ∧ PyCl02.answers_asked ns = true ∧ (∀ p ∈ cs, H p.2 = some (.tbl #[])) ∧ ∀ (H' : Hp) (r : Addr), H' r = some (.lst (intV (PyCl02.answers ns))) → Q (.ref r) H'
/-- nothing but a table stood there -/
def NewA (H : Hp) (p : Addr) : Prop := ∀ o, H p = some o → ∃ ps, o = .tbl ps
/-- what was there is kept, tables apart -/
def Keep (H H' : Hp) : Prop := ∀ b o, H b = some o → (∀ ps, o ≠ .tbl ps) → H' b = some o
theorem sql_keep {K : PySem.W.Frag} {H H' : Hp} {a : Addr} {xs : List V} (e : Keep H H') (h : SqL K H a xs) : SqL K H' a xs := by
  rcases h with (h | ⟨z, h⟩) | h
  · exact .inl (.inl (e _ _ h fun _ q => by cases q))
  · exact .inl (.inr ⟨z, e _ _ h fun _ q => by cases q⟩)
  · exact .inr h
section
variable {k : Ads} {H H' : Hp} {A dx L M : Addr} {zs : List (Addr × List Decree)} {s : State}
theorem AtlasAt.frame {p : Addr} (h : AtlasAt k H A dx L M zs s) (ok : OkS s) (bt : ButT p H H') (lo : Loose H p) (nA : A ≠ p) (nL : L ≠ p) (nM : M ≠ p) (nk : NotK H p) (nz : ∀ z ∈ zs, z.1 ≠ p) (tb : LamX.Tabs [(k.Tb, lamName)] H') : AtlasAt k H' A dx L M zs s := by
  refine ⟨bt _ _ nA h.ins fun _ q => (by cases q), bt _ _ nL h.lst fun _ q => (by cases q), h.nd, fun y hy => PlaceAt.butT bt lo (nz y hy) ?_ (h.at_ y hy), h.eq, tb, h.ne2, h.kept.butT bt nM nk⟩
  have okp := ok.places y.2 (by rw [← h.eq]; exact List.mem_map_of_mem hy)
  obtain ⟨d, r, e, _⟩ := okp.first
  rw [e]
  exact List.cons_ne_nil _ _
/-- the reader goes on -/
theorem AtlasAt.reader {r dr C : Addr} {a b : V} (h : AtlasAt k H A dx L M zs s) (ok : OkS s) (hr : H r = some (.ins C dr [("numbers", a), ("at", b)])) (bt : But r H H') : AtlasAt k H' A dx L M zs s := by
  refine h.frame ok bt.t (loose_ins hr (by show 2 ≤ 2; decide)) (fun e => ?_) (fun e => ?_) (fun e => ?_) (fun C dy a' b' q => ?_) (fun z hz e => ?_) (tabs_but bt (fun ps q => ?_) (fun c n q => ?_) h.tabs)
  · have q := h.ins
    rw [e, hr] at q
    cases q
  · have q := h.lst
    rw [e, hr] at q
    cases q
  · obtain ⟨_, q, _⟩ := h.kept
    rw [e, hr] at q
    cases q
  · rw [hr] at q
    injection q with q
    injection q with _ _ q
    injection q with q
    injection q with q
    exact absurd q (by decide +kernel)
  · obtain ⟨dy, l, ys, h1, _⟩ := h.at_ z hz
    rw [e, hr] at h1
    cases h1
  · rw [hr] at q
    cases q
  · rw [hr] at q
    unfold LamX.CodeO at q
    cases q
/-- the list of what is told goes on -/
theorem AtlasAt.told {T : Addr} {ns : List Int} {o : HO} (h : AtlasAt k H A dx L M zs s) (ok : OkS s) (hT : H T = some (.lst (intV ns))) (nL : L ≠ T) (nM : M ≠ T) : AtlasAt k (upd H T o) A dx L M zs s := by
  refine h.frame ok But.upd.t (loose_ints hT) (fun e => ?_) nL nM (notK_lst hT) (fun z hz e => ?_) (tabs_but But.upd (fun ps q => ?_) (fun c n q => ?_) h.tabs)
  · have q := h.ins
    rw [e, hT] at q
    cases q
  · obtain ⟨dy, l, ys, h1, _⟩ := h.at_ z hz
    rw [e, hT] at h1
    cases h1
  · rw [hT] at q
    cases q
  · rw [hT] at q
    unfold LamX.CodeO at q
    cases q
end
theorem ixt {K : PySem.W.Frag} {l : Addr} {H : Hp} {xs : List V} {j : Nat} {v : V} {Q : VK} (h : SqT K H l xs) (hv : xs[j]? = some v) (q : Q v H) : rIxT K (.ref l) (.int (j : Int)) H Q := ⟨l, xs, _, v, rfl, rfl, h, atI_nat hv, q⟩
abbrev s_answers : Stmt := topS 95
abbrev N_answers : List Str := ["calls", "atlas", "reader", "told", "call", "shape", "answer"]
theorem sc_answers : FnScope ["calls", "atlas", "reader", "told", "call", "shape", "answer"] ["calls"] (defScope s_answers) := ⟨rfl, rfl, rfl, by decide +kernel, rfl, by decide +kernel, by decide +kernel⟩
section
variable {P : Program} {w : World} {K : PySem.W.Frag} {mg : Str → Option Value} {base : Heap} {k : Ads} {cR co : Addr}
theorem ok_answers (T : Txt mg) (S : ShT K mg) (cAtlas : IsAtlas K mg k.A) (cReader : IsReader K mg cR) (I_Atlas : IsI P w K mg base 1 k.A ["self"] (spAtlasInit k.A)) (I_Reader : IsI P w K mg base 1 cR ["self", "numbers"] (spReaderInit cR)) (I_is_done : IsM P w K mg base 1 cR "is_done" ["self"] (spIsDone K cR))
    (I_take_number : IsM P w K mg base 1 cR "take_number" ["self"] (spTakeNumber K cR)) (I_read_given : Is P w K mg base 3 "read_given" ["reader", "number_count", "row_count"] (spReadGiven K cR)) (I_answer_call : Is P w K mg base 20 "answer_call" ["atlas", "call", "given"] (spAnswerCall k))
    {f : Addr} {fd : FuncData} (F : Fun K "answers" "answers" s_answers f fd) : FnOk P w K mg base CX0 21 f fd ["calls"] (spAnswers K [(co, k.Tb)]) := by
  obtain ⟨aS, ts, h_SHAPES, hS, hsh⟩ := S
  refine F.ok sc_answers (fun vs H Q E h => ?_) (fun cdv Ar outer s H vs Q E hr h => ?_)
  · obtain ⟨_, _, rfl, _⟩ := h
    rfl
  · obtain ⟨a, ns, rfl, ha, hask, hT, q⟩ := h
    obtain ⟨cs, xs, hcs, rfl, h60, hans⟩ := asked_line hask
    refine ⟨_, (pss_cons (ps_set (i := 1) sc_answers.nd rfl (Or.inl rfl) (pe_mk0 I_Atlas cAtlas.at_ (hr.mono (by decide)) rfl))
    (pss_cons (ps_set (i := 2) sc_answers.nd rfl (Or.inl rfl) (pe_mk I_Reader cReader.at_ (hr.mono (by decide)) rfl (pa_cons (pv 0) pa_nil)))
    (pss_cons (ps_set (i := 3) sc_answers.nd rfl (Or.inl rfl) (pe_lst pa_nil))
    (pss_cons (ps_while PassesOwn.never (pt_not (pt_val (pe_mM0 (pv 2) cReader.cl I_is_done (hr.mono (by decide))))) (pss_cons (ps_set (i := 4) sc_answers.nd rfl (Or.inl rfl) (pe_mM0 (pv 2) cReader.cl I_take_number (hr.mono (by decide))))
    (pss_cons (ps_set (i := 5) sc_answers.nd rfl (Or.inl rfl) (pe_ix ix_tup (pe_gref h_SHAPES rfl) (pv 4) (fun _ _ => rfl)))
    (pss_cons (ps_set (i := 6) sc_answers.nd rfl (Or.inl rfl) (pe_is I_answer_call (hr.mono (by decide)) rfl (pa_cons (pv 1) (pa_cons (pv 4) (pa_cons (pe_is I_read_given (hr.mono (by decide)) rfl (pa_cons (pv 2) (pa_cons (pe_ix ix_tup (pv 5) pe_int (fun _ _ => rfl)) (pa_cons (pe_ix ix_tup (pv 5) pe_int (fun _ _ => rfl)) pa_nil)))) pa_nil)))))
    (pss_cons (ps_expr (pe_bm PySem.F.plainAttrs_list PySem.F.slot_list_append PySem.F.type_list_append mt_append (pv 3) (pa_cons (pe_callB call_len_seq (by rfl) T.n_len PySem.boot_len (pa_cons (pv 6) pa_nil)) pa_nil)))
    (pss_one (ps_expr (pe_bm PySem.F.plainAttrs_list PySem.F.slot_list_extend PySem.F.type_list_extend mt_extend (pv 3) (pa_cons (pv 6) pa_nil)))))))))
    (pss_one (ps_ret (pv 3))))))), ?_⟩
    simp only [tSeq, tAsg, tOp, tUn, tVar, tC, rI0, rI, rU, rEq, rNe, gName, tIfS, tTest, tB, tAnd, tOr, tNot, tAndV, tOrV, tNotV, tChain, tRet, tRetN, tNext, tDrop, tCall, tCons, tNil, tLst, tFld, sFld, scal_int, L2.start, List.map_cons, List.map_nil, List.length_cons, List.length_nil, List.replicate_succ, List.replicate_zero, List.cons_append, List.nil_append, List.append_nil, List.getElem?_cons_zero, List.getElem?_cons_succ, List.set_cons_zero, List.set_cons_succ, Option.some.injEq, V.int.injEq, V.bl.injEq, V.ref.injEq, HO.ins.injEq, HO.lst.injEq, List.cons.injEq, and_true, true_and, and_assoc, exists_and_left, exists_eq_left', exists_eq_left, exists_eq_right, Nat.reduceSub, Nat.zero_add, Nat.reduceAdd, Nat.reduceLT, decide_eq_true_eq, decide_true, decide_false, Bool.false_eq_true, if_true, if_false, ite_true, ite_false, nox_K, cxOf_K, tMake]
    intro A dA nA ndA neA
    have s0 : Same H (upd (upd H dA (.own A)) A (.ins k.A dA [])) := same_made nA ndA fun b _ => rfl
    refine ⟨A, dA, rfl, upd_same, fun H1 L M nL nM nLM hA1 hL1 hM1 b1 => ⟨rfl, ?_⟩⟩
    have s1 : Same H H1 := fun b o h => b1 b o (ne_of_none h nA) (s0 _ _ h)
    intro r dr nr ndr ner
    have s1' : Same H1 (upd (upd H1 dr (.own r)) r (.ins cR dr [])) := same_made nr ndr fun b _ => rfl
    refine ⟨r, dr, a, rfl, upd_same, fun H2 hR2 b2 => ⟨rfl, Nat.zero_le _, fun T0 nT => ?_⟩⟩
    have s2 : Same H1 H2 := fun b o h => b2 b o (ne_of_none h nr) (s1' _ _ h)
    have s3 : Same H2 (upd H2 T0 (.lst [])) := same_new nT
    have nLT : L ≠ T0 := ne_of_none (s2 _ _ hL1) nT
    have nMT : M ≠ T0 := ne_of_none (s2 _ _ hM1) nT
    obtain ⟨dr', hr2⟩ := id hR2
    have hA0 : AtlasAt k H1 A dA L M [] Cl02.init := ⟨hA1, hL1, List.Pairwise.nil, fun z hz => absurd hz List.not_mem_nil, rfl, fun p hp => (by
      rw [List.mem_singleton.mp hp]
      exact (LamX.TabS.nil (hT (co, k.Tb) (List.mem_singleton.mpr rfl))).ext s1), nLM, [], hM1, rfl, fun y hy => absurd hy List.not_mem_nil⟩
    obtain ⟨W, hW⟩ : ∃ W : Nat → L2.St → Hp → Prop, W = fun m σ H' => ∃ cs2 xs2 st pre kp zs v4 v5 v6, Cds cs2 xs2 ∧ m = cs2.length ∧ (PyFlat.put cs).drop kp = PyFlat.put cs2 ∧ OkS st ∧ PyFlat.told (runs Cl02.init xs) = pre ++ PyFlat.told (runs st xs2) ∧ H' T0 = some (.lst (intV pre)) ∧ ReaderAt cR H' r a kp ∧
        AtlasAt k H' A dA L M zs st ∧ Keep H H' ∧ (∀ z ∈ zs, NewA H z.1) ∧ pre.length + 18 * xs2.length ≤ 1080 ∧ σ = [some (V.ref a), some (V.ref A), some (V.ref r), some (V.ref T0), v4, v5, v6] := ⟨_, rfl⟩
    refine ⟨W, ⟨cs.length, by rw [hW]; exact ⟨cs, xs, Cl02.init, [], 0, [], none, none, none, hcs, rfl, rfl, ok_init, rfl, upd_same, ⟨dr', s3 _ _ hr2⟩, (hA0.same s2).same s3, fun b o h _ => s3 _ _ (s2 _ _ (s1 _ _ h)), fun z hz => absurd hz List.not_mem_nil, by rw [List.length_nil]; omega, rfl⟩⟩, fun m σ H' h => ?_⟩
    rw [hW] at h
    obtain ⟨cs2, xs2, st, pre, kp, zs, v4, v5, v6, hc2, rfl, hdrop, okS, htold, hT', hR', hA', kH, fz, hlen, rfl⟩ := h
    have ha' := sql_keep kH ha
    have hR0 := hR'
    obtain ⟨dr2, hr'⟩ := hR'
    simp only [tSeq, tAsg, tOp, tUn, tVar, tC, rI0, rI, rU, rEq, rNe, gName, tIfS, tTest, tB, tAnd, tOr, tNot, tAndV, tOrV, tNotV, tChain, tRet, tRetN, tNext, tDrop, tCall, tCons, tNil, tLst, tFld, sFld, scal_int, L2.start, List.map_cons, List.map_nil, List.length_cons, List.length_nil, List.replicate_succ, List.replicate_zero, List.cons_append, List.nil_append, List.append_nil, List.getElem?_cons_zero, List.getElem?_cons_succ, List.set_cons_zero, List.set_cons_succ, Option.some.injEq, V.int.injEq, V.bl.injEq, V.ref.injEq, HO.ins.injEq, HO.lst.injEq, List.cons.injEq, and_true, true_and, and_assoc, exists_and_left, exists_eq_left', exists_eq_left, exists_eq_right, Nat.reduceSub, Nat.zero_add, Nat.reduceAdd, Nat.reduceLT, decide_eq_true_eq, decide_true, decide_false, Bool.false_eq_true, if_true, if_false, ite_true, ite_false, nox_K, cxOf_K, tMeth, hr', cReader.cl, cReader.n_numbers, cReader.n_at, lk_Reader_numbers, lk_Reader_at, pn_Reader_numbers, pn_Reader_at, pu_Reader_numbers, pu_Reader_at, no_Reader_is_done, no_Reader_take_number, no_Reader_take_row]
    refine ⟨r, a, PyFlat.put cs, kp, rfl, hR0, ha', ?_⟩
    refine ⟨_, rfl, ?_⟩
    cases hc2 with
    | nil =>
      have e : decide ((PyFlat.put cs).length ≤ kp) = true := decide_eq_true (List.drop_eq_nil_iff.mp hdrop)
      rw [e, if_neg (by decide)]
      refine q H' T0 ?_
      rw [hT', hans, htold]
      exact congrArg (fun z => some (HO.lst (intV z))) (List.append_nil _).symm
    | @cons c x cs' xs' hc ht =>
      obtain ⟨n, xn, rows, rfl, hshape, hxn, hrw, hn12⟩ := cd_shape hc
      have hd : (PyFlat.put cs).drop kp = (n : Int) :: (xn ++ (PyFlat.putRows rows ++ PyFlat.put cs')) := by
        rw [hdrop]
        show ((n : Int) :: xn ++ PyFlat.putRows rows) ++ PyFlat.put cs' = _
        rw [List.append_assoc]
        rfl
      have e : decide ((PyFlat.put cs).length ≤ kp) = false := decide_eq_false fun z => by
        rw [List.drop_eq_nil_iff.mpr z] at hd
        cases hd
      have hk0 : (PyFlat.put cs)[kp]? = some (n : Int) := by
        have := congrArg (fun l : List Int => l[0]?) hd
        rw [show ((PyFlat.put cs).drop kp)[0]? = (PyFlat.put cs)[kp + 0]? from List.getElem?_drop] at this
        exact this
      have hd1 : (PyFlat.put cs).drop (kp + 1) = xn ++ (PyFlat.putRows rows ++ PyFlat.put cs') := by
        rw [← List.drop_drop, hd]
        rfl
      rw [e, if_pos (by decide)]
      obtain ⟨t, ht0, htS⟩ := hsh n _ _ hn12 hshape
      refine ⟨W cs'.length, fun σ' H' h => ⟨_, Nat.lt_succ_self _, h⟩, dr2, _, hr', no_Reader_take_number, r, a, PyFlat.put cs, kp, n, rfl, hR0, ha', hk0, fun H3 hR3 b3 => ?_⟩
      obtain ⟨dr3, hr3⟩ := id hR3
      have hA3 := hA'.reader okS hr' b3
      refine ixt (j := n) (hS H3) (v := V.ref t) (by rw [List.getElem?_map, ht0]; rfl) (ixt (j := 0) (htS H3) rfl (ixt (j := 1) (htS H3) rfl ?_))
      refine ⟨r, a, PyFlat.put cs, kp + 1, xn, rows, PyFlat.put cs', rfl, hR3, sql_but b3 hr' ha', hd1, hxn, hrw, fun H4 G gz hR4 b4 hG hgz hro => ?_⟩
      have hA4 := hA3.reader okS hr3 b4
      refine ⟨A, dA, L, M, zs, st, n, xn, rows, G, gz, x, rfl, hc, hG, hgz, hro, hA4, okS, fun H5 r5 zs5 hA5 fr5 F5 nl5 h5 => ?_⟩
      have hrT : r ≠ T0 := fun e => by
        rw [e, hT'] at hr'
        cases hr'
      have nzT : ∀ z ∈ zs, z.1 ≠ T0 := fun z hz e => by
        obtain ⟨dy, l, ys, h1, _⟩ := hA'.at_ z hz
        rw [e, hT'] at h1
        cases h1
      have hT4 : H4 T0 = some (.lst (intV pre)) := b4 _ _ (Ne.symm hrT) (b3 _ _ (Ne.symm hrT) hT')
      have nT4 : T0 ∉ L :: M :: zs.map (·.1) := fun hm => by
        rcases (List.mem_cons).mp hm with e | e
        · exact nLT e.symm
        rcases (List.mem_cons).mp e with e | e
        · exact nMT e.symm
        · obtain ⟨z, hz, e⟩ := List.mem_map.mp e
          exact nzT z hz e
      have hT5 := F5 _ _ nT4 hT4 fun _ z => by cases z
      have r5T : r5 ≠ T0 := fun e => nl5 _ (e ▸ hT4)
      obtain ⟨dr4, hr4⟩ := id hR4
      have nr4 : r ∉ L :: M :: zs.map (·.1) := fun hm => by
        rcases (List.mem_cons).mp hm with e | e
        · have q2 := hA4.lst
          rw [← e, hr4] at q2
          cases q2
        rcases (List.mem_cons).mp e with e | e
        · obtain ⟨_, q2, _⟩ := hA4.kept
          rw [← e, hr4] at q2
          cases q2
        · obtain ⟨z, hz, e⟩ := List.mem_map.mp e
          obtain ⟨dy, l, ys, h1, _⟩ := hA4.at_ z hz
          rw [e, hr4] at h1
          cases h1
      have hr5 := F5 _ _ nr4 hr4 fun _ z => by cases z
      have fr : H r = none := s1.free nr
      have k5 : Keep H H5 := fun b o hb hn => by
        have nbr : b ≠ r := ne_of_none hb fr
        refine F5 _ _ (fun hm => ?_) (b4 _ _ nbr (b3 _ _ nbr (kH _ _ hb hn))) hn
        rcases (List.mem_cons).mp hm with e | e
        · rw [e] at hb
          rw [s0 _ _ hb] at nL
          cases nL
        rcases (List.mem_cons).mp e with e | e
        · rw [e] at hb
          rw [s0 _ _ hb] at nM
          cases nM
        · obtain ⟨z, hz, e⟩ := List.mem_map.mp e
          obtain ⟨ps, w⟩ := fz z hz o (by rw [e]; exact hb)
          exact hn ps w
      have okS' := step_ok okS x
      have la := step_len okS x
      have lxs : (x :: xs').length = xs'.length + 1 := rfl
      have lp : (intV pre).length = pre.length := List.length_map ..
      have la' : (intV (Cl02.step st x).2).length = (Cl02.step st x).2.length := List.length_map ..
      simp only [tSeq, tAsg, tOp, tUn, tVar, tC, rI0, rI, rU, rEq, rNe, gName, tIfS, tTest, tB, tAnd, tOr, tNot, tAndV, tOrV, tNotV, tChain, tRet, tRetN, tNext, tDrop, tCall, tCons, tNil, tLst, tFld, sFld, scal_int, L2.start, List.map_cons, List.map_nil, List.length_cons, List.length_nil, List.replicate_succ, List.replicate_zero, List.cons_append, List.nil_append, List.append_nil, List.getElem?_cons_zero, List.getElem?_cons_succ, List.set_cons_zero, List.set_cons_succ, Option.some.injEq, V.int.injEq, V.bl.injEq, V.ref.injEq, HO.ins.injEq, HO.lst.injEq, List.cons.injEq, and_true, true_and, and_assoc, exists_and_left, exists_eq_left', exists_eq_left, exists_eq_right, Nat.reduceSub, Nat.zero_add, Nat.reduceAdd, Nat.reduceLT, decide_eq_true_eq, decide_true, decide_false, Bool.false_eq_true, if_true, if_false, ite_true, ite_false, nox_K, cxOf_K, tBM, tCB, rAppend, rExtend]
      refine ⟨.inl ⟨rfl, _, .inl (.inl hT5)⟩, intV (Cl02.step st x).2, .inl (.inl (.inl h5)), intV pre, hT5, ?_, .inl ⟨rfl, _, .inl (.inl upd_same)⟩, _, upd_same, intV (Cl02.step st x).2, by rw [upd_ne r5T]; exact h5, ?_, ?_⟩
      · rw [lp]
        exact Nat.lt_of_le_of_lt (show pre.length ≤ 1080 by omega) (by decide)
      · rw [List.length_append, List.length_singleton, lp, la']
        exact Nat.le_trans (show pre.length + 1 + (Cl02.step st x).2.length ≤ 1080 by omega) (by decide)
      rw [upd_upd, hW]
      have fT : H T0 = none := s1.free (s2.free nT)
      refine ⟨cs', xs', (Cl02.step st x).1, pre ++ (((Cl02.step st x).2.length : Int) :: (Cl02.step st x).2), kp + 1 + xn.length + (PyFlat.putRows rows).length, zs5, _, _, _, ht, rfl, ?_, okS', ?_, ?_, ⟨dr4, by rw [upd_ne hrT]; exact hr5⟩, hA5.told okS' hT5 nLT nMT, fun b o hb hn => ?_, fun z hz => ?_, ?_, rfl⟩
      · rw [← List.drop_drop, ← List.drop_drop, hd1, List.drop_left, List.drop_left]
      · rw [htold]
        show pre ++ ((((Cl02.step st x).2.length : Int) :: (Cl02.step st x).2) ++ PyFlat.told (runs (Cl02.step st x).1 xs')) = _
        rw [List.append_assoc]
      · rw [upd_same, la', intV, intV, intV, List.map_append, List.map_cons, List.append_assoc]
        rfl
      · rw [upd_ne (ne_of_none hb fT)]
        exact k5 _ _ hb hn
      · rcases fr5 z hz with m | m
        · obtain ⟨y, hy, e⟩ := List.mem_map.mp m
          rw [← e]
          exact fz y hy
        · intro o ho
          cases o with
          | tbl ps => exact ⟨ps, rfl⟩
          | _ =>
            have hn := kH _ _ ho fun _ q => by cases q
            have := b4 _ _ (ne_of_none ho fr) (b3 _ _ (ne_of_none ho fr) hn)
            rw [m] at this
            cases this
      · rw [List.length_append, List.length_cons]
        omega
end
end Pc
namespace Pc
open PySem PySem.Spec PyProof.Rows L2 PcR PcM
open Cl02 (Turn Decree State Ans)
/-! ### one call -/
theorem int_nats (a : List Nat) : intV (nInts a) = natV a := by
  rw [intV, nInts, natV, List.map_map]
  rfl
abbrev s_answer_call : Stmt := topS 94
abbrev N_answer_call : List Str := ["atlas", "call", "given"]
theorem sc_answer_call : FnScope ["atlas", "call", "given"] ["atlas", "call", "given"] (defScope s_answer_call) := ⟨rfl, rfl, rfl, by decide +kernel, rfl, by decide +kernel, by decide +kernel⟩
section
variable {P : Program} {w : World} {K : PySem.W.Frag} {mg : Str → Option Value} {base : Heap} {k : Ads}
theorem ok_answer_call (T : Txt mg) (I_add_place : Is P w K mg base 5 "add_place" ["atlas", "offset"] (spAddPlace k))
    (I_add_decree : Is P w K mg base 6 "add_decree" ["atlas", "number", "moment", "offset"] (spAddDecree k))
    (I_add_summer : Is P w K mg base 6 "add_summer" ["atlas", "number", "moment", "offset", "more", "begins", "ends"] (spAddSummer k))
    (I_drop_decree : Is P w K mg base 2 "drop_decree" ["atlas", "number", "moment"] (spDrop k))
    (I_tell_offset : Is P w K mg base 8 "tell_offset" ["atlas", "number", "moment"] (spTellOffset k))
    (I_tell_shown : Is P w K mg base 10 "tell_shown" ["atlas", "number", "moment"] (spTellShown k))
    (I_tell_moments : Is P w K mg base 10 "tell_moments" ["atlas", "number", "shown"] (spTellMoments k))
    (I_tell_meant : Is P w K mg base 13 "tell_meant" ["atlas", "number", "shown"] (spTellMeant k))
    (I_tell_change : Is P w K mg base 10 "tell_change" ["atlas", "number", "moment"] (spTellChange k))
    (I_keep_shown : Is P w K mg base 3 "keep_shown" ["atlas", "number", "shown"] (spKeep k))
    (I_tell_when : Is P w K mg base 13 "tell_when" ["atlas", "number"] (spWhen k))
    (I_tell_there : Is P w K mg base 12 "tell_there" ["atlas", "kept_number", "place_number"] (spThere k))
    (I_tell_ahead : Is P w K mg base 8 "tell_ahead" ["atlas", "moment"] (spAhead k))
    (D : Def K mg "answer_call" s_answer_call ["atlas", "call", "given"]) : Is P w K mg base 20 "answer_call" ["atlas", "call", "given"] (spAnswerCall k) := by
  refine Is.by D fun f fd F => F.ok sc_answer_call (fun vs H Q E h => ?_) (fun cdv A outer s H vs Q E hr h => ?_)
  · obtain ⟨_, _, _, _, _, _, _, _, _, _, _, _, rfl, _⟩ := h
    rfl
  · obtain ⟨A0, dx, L, M, zs, st, n, xs, rows, G, gz, x, rfl, hc, hG, hgz, hR, hA, ok, q⟩ := h
    refine ⟨_, (pss_cons (ps_if (pt_cmpR op_eq (pv 1) (pe_cst T.g_PLACE rfl) (nomark _)) (pss_one (ps_ret (pe_is I_add_place (hr.mono (by decide)) rfl (pa_cons (pv 0) (pa_cons (pe_ix ix_list (pv 2) pe_int (fun _ _ => rfl)) pa_nil))))) pss_nil)
    (pss_cons (ps_if (pt_cmpR op_eq (pv 1) (pe_cst T.g_DECREE rfl) (nomark _)) (pss_one (ps_ret (pe_is I_add_decree (hr.mono (by decide)) rfl (pa_cons (pv 0) (pa_cons (pe_ix ix_list (pv 2) pe_int (fun _ _ => rfl)) (pa_cons (pe_ix ix_list (pv 2) pe_int (fun _ _ => rfl)) (pa_cons (pe_ix ix_list (pv 2) pe_int (fun _ _ => rfl)) pa_nil))))))) pss_nil)
    (pss_cons (ps_if (pt_cmpR op_eq (pv 1) (pe_cst T.g_SUMMER rfl) (nomark _)) (pss_one (ps_ret (pe_is I_add_summer (hr.mono (by decide)) rfl (pa_cons (pv 0) (pa_cons (pe_ix ix_list (pv 2) pe_int (fun _ _ => rfl)) (pa_cons (pe_ix ix_list (pv 2) pe_int (fun _ _ => rfl)) (pa_cons (pe_ix ix_list (pv 2) pe_int (fun _ _ => rfl)) (pa_cons (pe_ix ix_list (pv 2) pe_int (fun _ _ => rfl)) (pa_cons (pe_ix ix_list (pv 2) pe_int (fun _ _ => rfl)) (pa_cons (pe_ix ix_list (pv 2) pe_int (fun _ _ => rfl)) pa_nil)))))))))) pss_nil)
    (pss_cons (ps_if (pt_cmpR op_eq (pv 1) (pe_cst T.g_DROP rfl) (nomark _)) (pss_one (ps_ret (pe_is I_drop_decree (hr.mono (by decide)) rfl (pa_cons (pv 0) (pa_cons (pe_ix ix_list (pv 2) pe_int (fun _ _ => rfl)) (pa_cons (pe_ix ix_list (pv 2) pe_int (fun _ _ => rfl)) pa_nil)))))) pss_nil)
    (pss_cons (ps_if (pt_cmpR op_eq (pv 1) (pe_cst T.g_OFFSET rfl) (nomark _)) (pss_one (ps_ret (pe_is I_tell_offset (hr.mono (by decide)) rfl (pa_cons (pv 0) (pa_cons (pe_ix ix_list (pv 2) pe_int (fun _ _ => rfl)) (pa_cons (pe_ix ix_list (pv 2) pe_int (fun _ _ => rfl)) pa_nil)))))) pss_nil)
    (pss_cons (ps_if (pt_cmpR op_eq (pv 1) (pe_cst T.g_SHOWS rfl) (nomark _)) (pss_one (ps_ret (pe_is I_tell_shown (hr.mono (by decide)) rfl (pa_cons (pv 0) (pa_cons (pe_ix ix_list (pv 2) pe_int (fun _ _ => rfl)) (pa_cons (pe_ix ix_list (pv 2) pe_int (fun _ _ => rfl)) pa_nil)))))) pss_nil)
    (pss_cons (ps_if (pt_cmpR op_eq (pv 1) (pe_cst T.g_MOMENTS rfl) (nomark _)) (pss_one (ps_ret (pe_is I_tell_moments (hr.mono (by decide)) rfl (pa_cons (pv 0) (pa_cons (pe_ix ix_list (pv 2) pe_int (fun _ _ => rfl)) (pa_cons (pe_ix ix_list (pv 2) pe_int (fun _ _ => rfl)) pa_nil)))))) pss_nil)
    (pss_cons (ps_if (pt_cmpR op_eq (pv 1) (pe_cst T.g_MEANT rfl) (nomark _)) (pss_one (ps_ret (pe_is I_tell_meant (hr.mono (by decide)) rfl (pa_cons (pv 0) (pa_cons (pe_ix ix_list (pv 2) pe_int (fun _ _ => rfl)) (pa_cons (pe_ix ix_list (pv 2) pe_int (fun _ _ => rfl)) pa_nil)))))) pss_nil)
    (pss_cons (ps_if (pt_cmpR op_eq (pv 1) (pe_cst T.g_CHANGE rfl) (nomark _)) (pss_one (ps_ret (pe_is I_tell_change (hr.mono (by decide)) rfl (pa_cons (pv 0) (pa_cons (pe_ix ix_list (pv 2) pe_int (fun _ _ => rfl)) (pa_cons (pe_ix ix_list (pv 2) pe_int (fun _ _ => rfl)) pa_nil)))))) pss_nil)
    (pss_cons (ps_if (pt_cmpR op_eq (pv 1) (pe_cst T.g_KEEP rfl) (nomark _)) (pss_one (ps_ret (pe_is I_keep_shown (hr.mono (by decide)) rfl (pa_cons (pv 0) (pa_cons (pe_ix ix_list (pv 2) pe_int (fun _ _ => rfl)) (pa_cons (pe_ix ix_list (pv 2) pe_int (fun _ _ => rfl)) pa_nil)))))) pss_nil)
    (pss_cons (ps_if (pt_cmpR op_eq (pv 1) (pe_cst T.g_WHEN rfl) (nomark _)) (pss_one (ps_ret (pe_is I_tell_when (hr.mono (by decide)) rfl (pa_cons (pv 0) (pa_cons (pe_ix ix_list (pv 2) pe_int (fun _ _ => rfl)) pa_nil))))) pss_nil)
    (pss_cons (ps_if (pt_cmpR op_eq (pv 1) (pe_cst T.g_THERE rfl) (nomark _)) (pss_one (ps_ret (pe_is I_tell_there (hr.mono (by decide)) rfl (pa_cons (pv 0) (pa_cons (pe_ix ix_list (pv 2) pe_int (fun _ _ => rfl)) (pa_cons (pe_ix ix_list (pv 2) pe_int (fun _ _ => rfl)) pa_nil)))))) pss_nil)
    (pss_one (ps_ret (pe_is I_tell_ahead (hr.mono (by decide)) rfl (pa_cons (pv 0) (pa_cons (pe_ix ix_list (pv 2) pe_int (fun _ _ => rfl)) pa_nil))))))))))))))))), ?_⟩
    simp only [tSeq, tAsg, tOp, tUn, tVar, tC, rI0, rI, rU, rEq, rNe, gName, tIfS, tTest, tB, tAnd, tOr, tNot, tAndV, tOrV, tNotV, tChain, tRet, tRetN, tNext, tDrop, tCall, tCons, tNil, tLst, tFld, sFld, scal_int, L2.start, List.map_cons, List.map_nil, List.length_cons, List.length_nil, List.replicate_succ, List.replicate_zero, List.cons_append, List.nil_append, List.append_nil, List.getElem?_cons_zero, List.getElem?_cons_succ, List.set_cons_zero, List.set_cons_succ, Option.some.injEq, V.int.injEq, V.bl.injEq, V.ref.injEq, HO.ins.injEq, HO.lst.injEq, List.cons.injEq, and_true, true_and, and_assoc, exists_and_left, exists_eq_left', exists_eq_left, exists_eq_right, Nat.reduceSub, Nat.zero_add, Nat.reduceAdd, Nat.reduceLT, decide_eq_true_eq, decide_true, decide_false, Bool.false_eq_true, if_true, if_false, ite_true, ite_false, nox_K, cxOf_K]
    obtain ⟨c, ec⟩ : ∃ c, ((n : Int) :: xs) :: rows = c := ⟨_, rfl⟩
    rw [ec] at hc
    cases hc with
    | place z =>
      obtain ⟨en, rfl, er⟩ : (n : Int) = 0 ∧ xs = [z] ∧ rows = [] := by
        injection ec with e1 e2
        injection e1 with e3 e4
        exact ⟨e3, e4, e2⟩
      obtain rfl : gz = [] := List.map_eq_nil_iff.mp (hgz.trans er)
      rw [if_pos en]
      exact ixl (j := 0) (.inl (.inl hG)) (v := .int z) rfl (⟨A0, dx, L, M, zs, st, z, rfl, hA, ok, q⟩)
    | decree p m z =>
      obtain ⟨en, rfl, er⟩ : (n : Int) = 1 ∧ xs = [(p : Int), (m : Int), z] ∧ rows = [] := by
        injection ec with e1 e2
        injection e1 with e3 e4
        exact ⟨e3, e4, e2⟩
      obtain rfl : gz = [] := List.map_eq_nil_iff.mp (hgz.trans er)
      rw [if_neg (show ¬ (n : Int) = 0 by omega), if_pos en]
      exact ixl (j := 0) (.inl (.inl hG)) (v := .int (p : Int)) rfl (ixl (j := 1) (.inl (.inl hG)) (v := .int (m : Int)) rfl (ixl (j := 2) (.inl (.inl hG)) (v := .int z) rfl (⟨A0, dx, L, M, zs, st, p, m, z, rfl, hA, ok, q⟩)))
    | summer p m z y a b ha hb =>
      obtain ⟨en, rfl, er⟩ : (n : Int) = 2 ∧ xs = [(p : Int), (m : Int), z, (y : Int)] ∧ rows = [nInts a, nInts b] := by
        injection ec with e1 e2
        injection e1 with e3 e4
        exact ⟨e3, e4, e2⟩
      rw [er] at hgz
      obtain ⟨g1, g2, rfl, e1, e2⟩ : ∃ g1 g2, gz = [g1, g2] ∧ g1.2 = nInts a ∧ g2.2 = nInts b := by
        match gz, hgz with
        | [], h => cases h
        | [g1], h =>
          injection h with h1 h2
          cases h2
        | g1 :: g2 :: g3 :: r, h =>
          injection h with h1 h2
          injection h2 with h2 h3
          cases h3
        | [g1, g2], h =>
          injection h with h1 h2
          injection h2 with h2
          exact ⟨g1, g2, rfl, h1, h2⟩
      have r1 := hR g1 (List.mem_cons_self ..)
      have r2 := hR g2 (List.mem_cons_of_mem _ (List.mem_cons_self ..))
      rw [e1, int_nats] at r1
      rw [e2, int_nats] at r2
      rw [if_neg (show ¬ (n : Int) = 0 by omega), if_neg (show ¬ (n : Int) = 1 by omega), if_pos en]
      exact ixl (j := 0) (.inl (.inl hG)) (v := .int (p : Int)) rfl (ixl (j := 1) (.inl (.inl hG)) (v := .int (m : Int)) rfl (ixl (j := 2) (.inl (.inl hG)) (v := .int z) rfl (ixl (j := 3) (.inl (.inl hG)) (v := .int (y : Int)) rfl (ixl (j := 4) (.inl (.inl hG)) (v := .ref g1.1) rfl (ixl (j := 5) (.inl (.inl hG)) (v := .ref g2.1) rfl (⟨A0, dx, L, M, zs, st, p, m, z, y, g1.1, g2.1, a, b, rfl, r1, r2, hA, ok, q⟩))))))
    | drop p m =>
      obtain ⟨en, rfl, er⟩ : (n : Int) = 3 ∧ xs = [(p : Int), (m : Int)] ∧ rows = [] := by
        injection ec with e1 e2
        injection e1 with e3 e4
        exact ⟨e3, e4, e2⟩
      obtain rfl : gz = [] := List.map_eq_nil_iff.mp (hgz.trans er)
      rw [if_neg (show ¬ (n : Int) = 0 by omega), if_neg (show ¬ (n : Int) = 1 by omega), if_neg (show ¬ (n : Int) = 2 by omega), if_pos en]
      exact ixl (j := 0) (.inl (.inl hG)) (v := .int (p : Int)) rfl (ixl (j := 1) (.inl (.inl hG)) (v := .int (m : Int)) rfl (⟨A0, dx, L, M, zs, st, p, m, rfl, hA, ok, q⟩))
    | offset p m =>
      obtain ⟨en, rfl, er⟩ : (n : Int) = 4 ∧ xs = [(p : Int), (m : Int)] ∧ rows = [] := by
        injection ec with e1 e2
        injection e1 with e3 e4
        exact ⟨e3, e4, e2⟩
      obtain rfl : gz = [] := List.map_eq_nil_iff.mp (hgz.trans er)
      rw [if_neg (show ¬ (n : Int) = 0 by omega), if_neg (show ¬ (n : Int) = 1 by omega), if_neg (show ¬ (n : Int) = 2 by omega), if_neg (show ¬ (n : Int) = 3 by omega), if_pos en]
      exact ixl (j := 0) (.inl (.inl hG)) (v := .int (p : Int)) rfl (ixl (j := 1) (.inl (.inl hG)) (v := .int (m : Int)) rfl (⟨A0, dx, L, M, zs, st, p, m, rfl, hA, ok, q⟩))
    | shows p m =>
      obtain ⟨en, rfl, er⟩ : (n : Int) = 5 ∧ xs = [(p : Int), (m : Int)] ∧ rows = [] := by
        injection ec with e1 e2
        injection e1 with e3 e4
        exact ⟨e3, e4, e2⟩
      obtain rfl : gz = [] := List.map_eq_nil_iff.mp (hgz.trans er)
      rw [if_neg (show ¬ (n : Int) = 0 by omega), if_neg (show ¬ (n : Int) = 1 by omega), if_neg (show ¬ (n : Int) = 2 by omega), if_neg (show ¬ (n : Int) = 3 by omega), if_neg (show ¬ (n : Int) = 4 by omega), if_pos en]
      exact ixl (j := 0) (.inl (.inl hG)) (v := .int (p : Int)) rfl (ixl (j := 1) (.inl (.inl hG)) (v := .int (m : Int)) rfl (⟨A0, dx, L, M, zs, st, p, m, rfl, hA, ok, q⟩))
    | moments p l =>
      obtain ⟨en, rfl, er⟩ : (n : Int) = 6 ∧ xs = [(p : Int), l] ∧ rows = [] := by
        injection ec with e1 e2
        injection e1 with e3 e4
        exact ⟨e3, e4, e2⟩
      obtain rfl : gz = [] := List.map_eq_nil_iff.mp (hgz.trans er)
      rw [if_neg (show ¬ (n : Int) = 0 by omega), if_neg (show ¬ (n : Int) = 1 by omega), if_neg (show ¬ (n : Int) = 2 by omega), if_neg (show ¬ (n : Int) = 3 by omega), if_neg (show ¬ (n : Int) = 4 by omega), if_neg (show ¬ (n : Int) = 5 by omega), if_pos en]
      exact ixl (j := 0) (.inl (.inl hG)) (v := .int (p : Int)) rfl (ixl (j := 1) (.inl (.inl hG)) (v := .int l) rfl (⟨A0, dx, L, M, zs, st, p, l, rfl, hA, ok, q⟩))
    | meant p l =>
      obtain ⟨en, rfl, er⟩ : (n : Int) = 7 ∧ xs = [(p : Int), l] ∧ rows = [] := by
        injection ec with e1 e2
        injection e1 with e3 e4
        exact ⟨e3, e4, e2⟩
      obtain rfl : gz = [] := List.map_eq_nil_iff.mp (hgz.trans er)
      rw [if_neg (show ¬ (n : Int) = 0 by omega), if_neg (show ¬ (n : Int) = 1 by omega), if_neg (show ¬ (n : Int) = 2 by omega), if_neg (show ¬ (n : Int) = 3 by omega), if_neg (show ¬ (n : Int) = 4 by omega), if_neg (show ¬ (n : Int) = 5 by omega), if_neg (show ¬ (n : Int) = 6 by omega), if_pos en]
      exact ixl (j := 0) (.inl (.inl hG)) (v := .int (p : Int)) rfl (ixl (j := 1) (.inl (.inl hG)) (v := .int l) rfl (⟨A0, dx, L, M, zs, st, p, l, rfl, hA, ok, q⟩))
    | change p m =>
      obtain ⟨en, rfl, er⟩ : (n : Int) = 8 ∧ xs = [(p : Int), (m : Int)] ∧ rows = [] := by
        injection ec with e1 e2
        injection e1 with e3 e4
        exact ⟨e3, e4, e2⟩
      obtain rfl : gz = [] := List.map_eq_nil_iff.mp (hgz.trans er)
      rw [if_neg (show ¬ (n : Int) = 0 by omega), if_neg (show ¬ (n : Int) = 1 by omega), if_neg (show ¬ (n : Int) = 2 by omega), if_neg (show ¬ (n : Int) = 3 by omega), if_neg (show ¬ (n : Int) = 4 by omega), if_neg (show ¬ (n : Int) = 5 by omega), if_neg (show ¬ (n : Int) = 6 by omega), if_neg (show ¬ (n : Int) = 7 by omega), if_pos en]
      exact ixl (j := 0) (.inl (.inl hG)) (v := .int (p : Int)) rfl (ixl (j := 1) (.inl (.inl hG)) (v := .int (m : Int)) rfl (⟨A0, dx, L, M, zs, st, p, m, rfl, hA, ok, q⟩))
    | keep p l =>
      obtain ⟨en, rfl, er⟩ : (n : Int) = 9 ∧ xs = [(p : Int), l] ∧ rows = [] := by
        injection ec with e1 e2
        injection e1 with e3 e4
        exact ⟨e3, e4, e2⟩
      obtain rfl : gz = [] := List.map_eq_nil_iff.mp (hgz.trans er)
      rw [if_neg (show ¬ (n : Int) = 0 by omega), if_neg (show ¬ (n : Int) = 1 by omega), if_neg (show ¬ (n : Int) = 2 by omega), if_neg (show ¬ (n : Int) = 3 by omega), if_neg (show ¬ (n : Int) = 4 by omega), if_neg (show ¬ (n : Int) = 5 by omega), if_neg (show ¬ (n : Int) = 6 by omega), if_neg (show ¬ (n : Int) = 7 by omega), if_neg (show ¬ (n : Int) = 8 by omega), if_pos en]
      exact ixl (j := 0) (.inl (.inl hG)) (v := .int (p : Int)) rfl (ixl (j := 1) (.inl (.inl hG)) (v := .int l) rfl (⟨A0, dx, L, M, zs, st, p, l, rfl, hA, ok, q⟩))
    | when p =>
      obtain ⟨en, rfl, er⟩ : (n : Int) = 10 ∧ xs = [(p : Int)] ∧ rows = [] := by
        injection ec with e1 e2
        injection e1 with e3 e4
        exact ⟨e3, e4, e2⟩
      obtain rfl : gz = [] := List.map_eq_nil_iff.mp (hgz.trans er)
      rw [if_neg (show ¬ (n : Int) = 0 by omega), if_neg (show ¬ (n : Int) = 1 by omega), if_neg (show ¬ (n : Int) = 2 by omega), if_neg (show ¬ (n : Int) = 3 by omega), if_neg (show ¬ (n : Int) = 4 by omega), if_neg (show ¬ (n : Int) = 5 by omega), if_neg (show ¬ (n : Int) = 6 by omega), if_neg (show ¬ (n : Int) = 7 by omega), if_neg (show ¬ (n : Int) = 8 by omega), if_neg (show ¬ (n : Int) = 9 by omega), if_pos en]
      exact ixl (j := 0) (.inl (.inl hG)) (v := .int (p : Int)) rfl (⟨A0, dx, L, M, zs, st, p, rfl, hA, ok, q⟩)
    | there p m =>
      obtain ⟨en, rfl, er⟩ : (n : Int) = 11 ∧ xs = [(p : Int), (m : Int)] ∧ rows = [] := by
        injection ec with e1 e2
        injection e1 with e3 e4
        exact ⟨e3, e4, e2⟩
      obtain rfl : gz = [] := List.map_eq_nil_iff.mp (hgz.trans er)
      rw [if_neg (show ¬ (n : Int) = 0 by omega), if_neg (show ¬ (n : Int) = 1 by omega), if_neg (show ¬ (n : Int) = 2 by omega), if_neg (show ¬ (n : Int) = 3 by omega), if_neg (show ¬ (n : Int) = 4 by omega), if_neg (show ¬ (n : Int) = 5 by omega), if_neg (show ¬ (n : Int) = 6 by omega), if_neg (show ¬ (n : Int) = 7 by omega), if_neg (show ¬ (n : Int) = 8 by omega), if_neg (show ¬ (n : Int) = 9 by omega), if_neg (show ¬ (n : Int) = 10 by omega), if_pos en]
      exact ixl (j := 0) (.inl (.inl hG)) (v := .int (p : Int)) rfl (ixl (j := 1) (.inl (.inl hG)) (v := .int (m : Int)) rfl (⟨A0, dx, L, M, zs, st, p, m, rfl, hA, ok, q⟩))
    | ahead m =>
      obtain ⟨en, rfl, er⟩ : (n : Int) = 12 ∧ xs = [(m : Int)] ∧ rows = [] := by
        injection ec with e1 e2
        injection e1 with e3 e4
        exact ⟨e3, e4, e2⟩
      obtain rfl : gz = [] := List.map_eq_nil_iff.mp (hgz.trans er)
      rw [if_neg (show ¬ (n : Int) = 0 by omega), if_neg (show ¬ (n : Int) = 1 by omega), if_neg (show ¬ (n : Int) = 2 by omega), if_neg (show ¬ (n : Int) = 3 by omega), if_neg (show ¬ (n : Int) = 4 by omega), if_neg (show ¬ (n : Int) = 5 by omega), if_neg (show ¬ (n : Int) = 6 by omega), if_neg (show ¬ (n : Int) = 7 by omega), if_neg (show ¬ (n : Int) = 8 by omega), if_neg (show ¬ (n : Int) = 9 by omega), if_neg (show ¬ (n : Int) = 10 by omega), if_neg (show ¬ (n : Int) = 11 by omega)]
      exact ixl (j := 0) (.inl (.inl hG)) (v := .int (m : Int)) rfl (⟨A0, dx, L, M, zs, st, m, rfl, hA, ok, q⟩)
end
end Pc
namespace Pc
open PySem PySem.Spec PyProof.Rows L2 PcR PcM
/-! ### the end: what the module's top has written -/
section
variable {P : Program} {w : World} {K : PySem.W.Frag} {h : Heap} {mg : Str → Option Value} {C : Addr} {x qual : Str} {st : Stmt} {ps : List Str}
def FactD (K : PySem.W.Frag) (x : Str) (st : Stmt) : Prop := ∃ (f : Addr) (oc : Value) (od : Option Addr) (kV dc pm : Value) (an : Option Addr) (cd ct : Value) (sl : Array (Option Value)), PySem.W.nsIn K mainGlobals x = some (some (.ref f)) ∧
  K.lookup f = some ⟨oc, od, .func (PySem.W.fnOf x x (defArgs st) (defBody st) (defScope st) .none kV dc pm an cd ct), sl⟩ ∧ PySem.W.codeIn K cd x = true ∧ PySem.W.keepIn K (.ref f) = true
/-- the same, its code object told -/
def FactL (K : PySem.W.Frag) (x : Str) (st : Stmt) (cd : Value) : Prop := ∃ (f : Addr) (oc : Value) (od : Option Addr) (kV dc pm : Value) (an : Option Addr) (ct : Value) (sl : Array (Option Value)), PySem.W.nsIn K mainGlobals x = some (some (.ref f)) ∧
  K.lookup f = some ⟨oc, od, .func (PySem.W.fnOf x x (defArgs st) (defBody st) (defScope st) .none kV dc pm an cd ct), sl⟩ ∧ PySem.W.codeIn K cd x = true ∧ PySem.W.keepIn K (.ref f) = true
def FactI (K : PySem.W.Frag) (qual : Str) (C : Addr) (st : Stmt) : Prop := ∃ (f : Addr) (oc : Value) (od : Option Addr) (kV dc pm : Value) (an : Option Addr) (cd ct : Value) (sl : Array (Option Value)), PySem.W.findIn K (.ref C) "__init__" = some (some (.ref f)) ∧ PySem.W.isFn K (.ref f) = true ∧
  K.lookup f = some ⟨oc, od, .func (PySem.W.fnOf "__init__" qual (defArgs st) (defBody st) (defScope st) .none kV dc pm an cd ct), sl⟩ ∧ PySem.W.codeIn K cd qual = true ∧ PySem.W.keepIn K (.ref f) = true
def FactM (K : PySem.W.Frag) (x qual : Str) (C : Addr) (st : Stmt) : Prop := ∃ (f : Addr) (oc : Value) (od : Option Addr) (kV dc pm : Value) (an : Option Addr) (cd ct : Value) (sl : Array (Option Value)), PySem.W.findIn K (.ref C) x = some (some (.ref f)) ∧ PySem.W.isFn K (.ref f) = true ∧
  K.lookup f = some ⟨oc, od, .func (PySem.W.fnOf x qual (defArgs st) (defBody st) (defScope st) .none kV dc pm an cd ct), sl⟩ ∧ PySem.W.codeIn K cd qual = true ∧ PySem.W.keepIn K (.ref f) = true
structure FactC (K : PySem.W.Frag) (x : Str) (C : Addr) : Prop where
  ns : PySem.W.nsIn K mainGlobals x = some (some (.ref C))
  gets : PySem.W.plainGet K C Str.empty = true
  dict_ : PySem.W.hasDictIn K C = true
  over : PySem.W.plainOver K C = true
  seta : PySem.W.findIn K (.ref C) "__setattr__" = some (some (.builtin "object.__setattr__"))
  mks : PySem.W.makesIn K C = true
  kc : PySem.W.keepIn K (.ref C) = true
def FactG (K : PySem.W.Frag) (x : Str) (i : Int) : Prop := ∃ t, PySem.W.nsIn K mainGlobals x = some (some (.int i t))
section
variable {f : Addr} {oc : Value} {od : Option Addr} {kV dc pm : Value} {an : Option Addr} {cd ct : Value} {sl : Array (Option Value)}
theorem FactD.of (a : PySem.W.nsIn K mainGlobals x = some (some (.ref f))) (l : K.lookup f = some ⟨oc, od, .func (PySem.W.fnOf x x (defArgs st) (defBody st) (defScope st) .none kV dc pm an cd ct), sl⟩) (c : PySem.W.codeIn K cd x = true) (k : PySem.W.keepIn K (.ref f) = true) : FactD K x st := ⟨f, oc, od, kV, dc, pm, an, cd, ct, sl, a, l, c, k⟩
theorem FactL.of (a : PySem.W.nsIn K mainGlobals x = some (some (.ref f))) (l : K.lookup f = some ⟨oc, od, .func (PySem.W.fnOf x x (defArgs st) (defBody st) (defScope st) .none kV dc pm an cd ct), sl⟩) (c : PySem.W.codeIn K cd x = true) (k : PySem.W.keepIn K (.ref f) = true) : FactL K x st cd := ⟨f, oc, od, kV, dc, pm, an, ct, sl, a, l, c, k⟩
theorem FactI.of (a : PySem.W.findIn K (.ref C) "__init__" = some (some (.ref f))) (i : PySem.W.isFn K (.ref f) = true) (l : K.lookup f = some ⟨oc, od, .func (PySem.W.fnOf "__init__" qual (defArgs st) (defBody st) (defScope st) .none kV dc pm an cd ct), sl⟩) (c : PySem.W.codeIn K cd qual = true) (k : PySem.W.keepIn K (.ref f) = true) : FactI K qual C st := ⟨f, oc, od, kV, dc, pm, an, cd, ct, sl, a, i, l, c, k⟩
theorem FactM.of (a : PySem.W.findIn K (.ref C) x = some (some (.ref f))) (i : PySem.W.isFn K (.ref f) = true) (l : K.lookup f = some ⟨oc, od, .func (PySem.W.fnOf x qual (defArgs st) (defBody st) (defScope st) .none kV dc pm an cd ct), sl⟩) (c : PySem.W.codeIn K cd qual = true) (k : PySem.W.keepIn K (.ref f) = true) : FactM K x qual C st := ⟨f, oc, od, kV, dc, pm, an, cd, ct, sl, a, i, l, c, k⟩
theorem FactG.of {i : Int} {t : Tok} (a : PySem.W.nsIn K mainGlobals x = some (some (.int i t))) : FactG K x i := ⟨t, a⟩
end
theorem tab_is {f co Tb : Addr} {cd : Value} {oc oc' : Value} {od od' : Option Addr} {kV dc pm : Value} {an : Option Addr} {ct : Value} {sl sl' : Array (Option Value)} {vs : Array Value} (a : PySem.W.nsIn K mainGlobals x = some (some (.ref f)))
    (l : K.lookup f = some ⟨oc, od, .func (PySem.W.fnOf x x (defArgs st) (defBody st) (defScope st) .none kV dc pm an cd ct), sl⟩) (e : cd = .ref co) (m : K.lookup co = some ⟨oc', od', .fields vs, sl'⟩) (v : vs[11]? = some (.ref Tb)) : PySem.W.tabIn K x = some (co, Tb) := by
  unfold PySem.W.tabIn
  rw [a]
  subst e
  show (match K.lookup f with
    | some ⟨_, _, .func fe, _⟩ => (match fe.code with
      | .ref ce => (match K.lookup ce with
        | some ⟨_, _, .fields ws, _⟩ => (match (ws[11]? : Option Value) with
          | some (.ref Pe) => some (ce, Pe)
          | _ => none)
        | _ => none)
      | _ => none)
    | _ => none) = _
  rw [l]
  show (match K.lookup co with
        | some ⟨_, _, .fields ws, _⟩ => (match (ws[11]? : Option Value) with
          | some (.ref Pe) => some (co, Pe)
          | _ => none)
        | _ => none) = _
  rw [m]
  show (match (vs[11]? : Option Value) with
          | some (.ref Pe) => some (co, Pe)
          | _ => none) = _
  rw [v]
theorem FactC.cl (c : FactC K x C) : Cls K C := ⟨c.gets, c.dict_, c.over, c.seta⟩
theorem FactC.at_ (c : FactC K x C) (X : K.In h) (G : h.Ns mainGlobals mg) : mg x = some (.ref C) := PySem.W.mg_of X G c.ns
theorem FactG.mk {i : Int} (c : FactG K x i) (X : K.In h) (G : h.Ns mainGlobals mg) : Cst mg x i := by
  obtain ⟨t, c⟩ := c
  exact ⟨t, PySem.W.mg_of X G c⟩
theorem FactD.mk (c : FactD K x st) (X : K.In h) (G : h.Ns mainGlobals mg) (b : ∀ (kV doc pm : Value) (an : Option Addr) (cdv ct : Value) (us : List Value), us.length = ps.length → bindArgs (PySem.W.fnOf x x (defArgs st) (defBody st) (defScope st) .none kV doc pm an cdv ct) ⟨us, []⟩ = pure (ps.zip us)) : Def K mg x st ps := by
  obtain ⟨f, oc, od, kV, dc, pm, an, cd, ct, sl, a, l, c, k⟩ := c
  exact ⟨f, _, fun_mk l c k, PySem.W.mg_of X G a, (fun_mk (st := st) l c k).binds b⟩
theorem FactL.mk {cd : Value} {co : Addr} (c : FactL K x st cd) (X : K.In h) (G : h.Ns mainGlobals mg) (e : cd = .ref co) (b : ∀ (kV doc pm : Value) (an : Option Addr) (cdv ct : Value) (us : List Value), us.length = ps.length → bindArgs (PySem.W.fnOf x x (defArgs st) (defBody st) (defScope st) .none kV doc pm an cdv ct) ⟨us, []⟩ = pure (ps.zip us)) : DefC K mg x st ps co := by
  obtain ⟨f, oc, od, kV, dc, pm, an, ct, sl, a, l, c, k⟩ := c
  exact ⟨f, _, fun_mk l c k, PySem.W.mg_of X G a, (fun_mk (st := st) l c k).binds b, e⟩
theorem FactI.mk (c : FactI K qual C st) (cc : FactC K x C) (b : ∀ (kV doc pm : Value) (an : Option Addr) (cdv ct : Value) (us : List Value), us.length = ps.length → bindArgs (PySem.W.fnOf "__init__" qual (defArgs st) (defBody st) (defScope st) .none kV doc pm an cdv ct) ⟨us, []⟩ = pure (ps.zip us)) : Ini K qual C st ps := by
  obtain ⟨f, oc, od, kV, dc, pm, an, cd, ct, sl, a, i, l, c, k⟩ := c
  exact ⟨f, _, fun_mk l c k, ⟨cc.mks, a, i, cc.kc⟩, (fun_mk (st := st) l c k).binds b⟩
theorem FactM.mk (c : FactM K x qual C st) (b : ∀ (kV doc pm : Value) (an : Option Addr) (cdv ct : Value) (us : List Value), us.length = ps.length → bindArgs (PySem.W.fnOf x qual (defArgs st) (defBody st) (defScope st) .none kV doc pm an cdv ct) ⟨us, []⟩ = pure (ps.zip us)) : Mth K x qual C st ps := by
  obtain ⟨f, oc, od, kV, dc, pm, an, cd, ct, sl, a, i, l, c, k⟩ := c
  exact ⟨f, _, fun_mk l c k, ⟨a, i, k⟩, (fun_mk (st := st) l c k).binds b⟩
theorem tup_of {a : Addr} {oc : Value} {od : Option Addr} {its : Array Value} {n : Nat} {sl : Array (Option Value)} {xs : List V} (l : K.lookup a = some ⟨oc, od, .seq its n, sl⟩) (c : oc = .type "tuple") (z : its.size ≤ sizeLine) (v : Vals xs its.toList) : ∀ H, SqT K H a xs := fun H => .inr ⟨_, its, n, l, c, rfl, z, v⟩
theorem FactD.free (X : K.In h) (G : h.Ns mainGlobals mg) (a : PySem.W.nsIn K mainGlobals x = some none) : mg x = none := PySem.W.mg_none_of X G a
theorem shT_of {aSH t0 t1 t2 t3 t4 t5 t6 t7 t8 t9 t10 t11 t12 : Addr} (hm : mg "SHAPES" = some (.ref aSH)) (h : ∀ H, SqT K H aSH ([t0, t1, t2, t3, t4, t5, t6, t7, t8, t9, t10, t11, t12].map V.ref))
    (h0 : ∀ H, SqT K H t0 [.int 1, .int 0]) (h1 : ∀ H, SqT K H t1 [.int 3, .int 0]) (h2 : ∀ H, SqT K H t2 [.int 4, .int 2]) (h3 : ∀ H, SqT K H t3 [.int 2, .int 0]) (h4 : ∀ H, SqT K H t4 [.int 2, .int 0]) (h5 : ∀ H, SqT K H t5 [.int 2, .int 0]) (h6 : ∀ H, SqT K H t6 [.int 2, .int 0]) (h7 : ∀ H, SqT K H t7 [.int 2, .int 0]) (h8 : ∀ H, SqT K H t8 [.int 2, .int 0]) (h9 : ∀ H, SqT K H t9 [.int 2, .int 0]) (h10 : ∀ H, SqT K H t10 [.int 1, .int 0]) (h11 : ∀ H, SqT K H t11 [.int 2, .int 0]) (h12 : ∀ H, SqT K H t12 [.int 1, .int 0]) : ShT K mg := by
  refine ⟨aSH, [t0, t1, t2, t3, t4, t5, t6, t7, t8, t9, t10, t11, t12], hm, h, fun c n j hc hs => ?_⟩
  have : c = 0 ∨ c = 1 ∨ c = 2 ∨ c = 3 ∨ c = 4 ∨ c = 5 ∨ c = 6 ∨ c = 7 ∨ c = 8 ∨ c = 9 ∨ c = 10 ∨ c = 11 ∨ c = 12 := by omega
  rcases this with rfl | rfl | rfl | rfl | rfl | rfl | rfl | rfl | rfl | rfl | rfl | rfl | rfl
  · have e : (some (1, 0) : Option (Nat × Nat)) = some (n, j) := hs
    injection e with e
    injection e with e1 e2
    subst e1
    subst e2
    exact ⟨t0, rfl, h0⟩
  · have e : (some (3, 0) : Option (Nat × Nat)) = some (n, j) := hs
    injection e with e
    injection e with e1 e2
    subst e1
    subst e2
    exact ⟨t1, rfl, h1⟩
  · have e : (some (4, 2) : Option (Nat × Nat)) = some (n, j) := hs
    injection e with e
    injection e with e1 e2
    subst e1
    subst e2
    exact ⟨t2, rfl, h2⟩
  · have e : (some (2, 0) : Option (Nat × Nat)) = some (n, j) := hs
    injection e with e
    injection e with e1 e2
    subst e1
    subst e2
    exact ⟨t3, rfl, h3⟩
  · have e : (some (2, 0) : Option (Nat × Nat)) = some (n, j) := hs
    injection e with e
    injection e with e1 e2
    subst e1
    subst e2
    exact ⟨t4, rfl, h4⟩
  · have e : (some (2, 0) : Option (Nat × Nat)) = some (n, j) := hs
    injection e with e
    injection e with e1 e2
    subst e1
    subst e2
    exact ⟨t5, rfl, h5⟩
  · have e : (some (2, 0) : Option (Nat × Nat)) = some (n, j) := hs
    injection e with e
    injection e with e1 e2
    subst e1
    subst e2
    exact ⟨t6, rfl, h6⟩
  · have e : (some (2, 0) : Option (Nat × Nat)) = some (n, j) := hs
    injection e with e
    injection e with e1 e2
    subst e1
    subst e2
    exact ⟨t7, rfl, h7⟩
  · have e : (some (2, 0) : Option (Nat × Nat)) = some (n, j) := hs
    injection e with e
    injection e with e1 e2
    subst e1
    subst e2
    exact ⟨t8, rfl, h8⟩
  · have e : (some (2, 0) : Option (Nat × Nat)) = some (n, j) := hs
    injection e with e
    injection e with e1 e2
    subst e1
    subst e2
    exact ⟨t9, rfl, h9⟩
  · have e : (some (1, 0) : Option (Nat × Nat)) = some (n, j) := hs
    injection e with e
    injection e with e1 e2
    subst e1
    subst e2
    exact ⟨t10, rfl, h10⟩
  · have e : (some (2, 0) : Option (Nat × Nat)) = some (n, j) := hs
    injection e with e
    injection e with e1 e2
    subst e1
    subst e2
    exact ⟨t11, rfl, h11⟩
  · have e : (some (1, 0) : Option (Nat × Nat)) = some (n, j) := hs
    injection e with e
    injection e with e1 e2
    subst e1
    subst e2
    exact ⟨t12, rfl, h12⟩
theorem map_int_inj : ∀ {l m : List Int}, l.map PySem.W.WData.int = m.map PySem.W.WData.int → l = m
  | [], [], _ => rfl
  | [], _ :: _, h => by cases h
  | _ :: _, [], h => by cases h
  | x :: l, y :: m, h => by
    simp only [List.map_cons] at h
    injection h with h1 h2
    injection h1 with h3
    rw [h3, map_int_inj h2]
theorem answers_asked_of {cs : List (Addr × Addr)} {H : Hp} {a : Addr} {ns : List Int} {b : PySem.W.Codec.denoteAll PySem.Challenge.rw_placeclocks_s01_answers.args} (henc : PySem.W.Codec.encAll PySem.Challenge.rw_placeclocks_s01_answers.args b = [PySem.W.WData.list (ns.map PySem.W.WData.int)])
    (hask : PySem.W.Codec.app PySem.Challenge.rw_placeclocks_s01_answers.args PySem.Challenge.rw_placeclocks_s01_answers.asked b = true) (hT : ∀ p ∈ cs, H p.2 = some (.tbl #[])) (hS : SqL K H a (ns.map V.int)) :
    spAnswers K cs [.ref a] H (fun v H' => Dw K H' v (PySem.Challenge.rw_placeclocks_s01_answers.ret.enc (PySem.W.Codec.app PySem.Challenge.rw_placeclocks_s01_answers.args PySem.Challenge.rw_placeclocks_s01_answers.f b))) fun _ _ _ => False := by
  obtain ⟨l, u⟩ : List Int × Unit := b
  have h2 : [PySem.W.WData.list (l.map PySem.W.WData.int)] = [PySem.W.WData.list (ns.map PySem.W.WData.int)] := henc
  injection h2 with h3
  injection h3 with h4
  have e := map_int_inj h4
  subst e
  exact ⟨a, l, rfl, hS, hask, hT, fun H' r hr => .lst (SqL.of hr) (dw_ints _)⟩
set_option maxHeartbeats 9000000 in
theorem all_mk {q : Program} {fa : Addr} (X : K.In h) (G : h.Ns mainGlobals mg) (hfa : mg "answers" = some (.ref fa)) {cTurn cSummer cDecree cPlace cReader cKept cAtlas co_put_decree Tb_put_decree aML aSH t0 t1 t2 t3 t4 t5 t6 t7 t8 t9 t10 t11 t12 : Addr} {cd_put_decree : Value}
    (c_Turn : FactC K "Turn" cTurn)
    (n_Turn_from_end : PySem.W.findIn K (.ref cTurn) "from_end" = some none)
    (n_Turn_rank : PySem.W.findIn K (.ref cTurn) "rank" = some none)
    (n_Turn_weekday : PySem.W.findIn K (.ref cTurn) "weekday" = some none)
    (n_Turn_month : PySem.W.findIn K (.ref cTurn) "month" = some none)
    (n_Turn_minute : PySem.W.findIn K (.ref cTurn) "minute" = some none)
    (c_Summer : FactC K "Summer" cSummer)
    (n_Summer_more : PySem.W.findIn K (.ref cSummer) "more" = some none)
    (n_Summer_begins : PySem.W.findIn K (.ref cSummer) "begins" = some none)
    (n_Summer_ends : PySem.W.findIn K (.ref cSummer) "ends" = some none)
    (c_Decree : FactC K "Decree" cDecree)
    (n_Decree_moment : PySem.W.findIn K (.ref cDecree) "moment" = some none)
    (n_Decree_offset : PySem.W.findIn K (.ref cDecree) "offset" = some none)
    (n_Decree_summer : PySem.W.findIn K (.ref cDecree) "summer" = some none)
    (c_Place : FactC K "Place" cPlace)
    (n_Place_decrees : PySem.W.findIn K (.ref cPlace) "decrees" = some none)
    (c_Reader : FactC K "Reader" cReader)
    (n_Reader_numbers : PySem.W.findIn K (.ref cReader) "numbers" = some none)
    (n_Reader_at : PySem.W.findIn K (.ref cReader) "at" = some none)
    (c_Kept : FactC K "Kept" cKept)
    (n_Kept_place : PySem.W.findIn K (.ref cKept) "place" = some none)
    (n_Kept_shown : PySem.W.findIn K (.ref cKept) "shown" = some none)
    (c_Atlas : FactC K "Atlas" cAtlas)
    (n_Atlas_places : PySem.W.findIn K (.ref cAtlas) "places" = some none)
    (n_Atlas_kept : PySem.W.findIn K (.ref cAtlas) "kept" = some none)
    (d_is_moment : FactD K "is_moment" s_is_moment)
    (d_weekday_of : FactD K "weekday_of" s_weekday_of)
    (d_year_of : FactD K "year_of" s_year_of)
    (d_month_length : FactD K "month_length" s_month_length)
    (d_first_day_of_year : FactD K "first_day_of_year" s_first_day_of_year)
    (d_first_day_of_month : FactD K "first_day_of_month" s_first_day_of_month)
    (d_date_of : FactD K "date_of" s_date_of)
    (d_Turn_init : FactI K "Turn.__init__" cTurn s_Turn_init)
    (d_Summer_init : FactI K "Summer.__init__" cSummer s_Summer_init)
    (d_Decree_init : FactI K "Decree.__init__" cDecree s_Decree_init)
    (d_is_offset : FactD K "is_offset" s_is_offset)
    (d_is_more : FactD K "is_more" s_is_more)
    (d_is_turn : FactD K "is_turn" s_is_turn)
    (d_day_of_turn : FactD K "day_of_turn" s_day_of_turn)
    (d_moment_of_turn : FactD K "moment_of_turn" s_moment_of_turn)
    (d_is_summer : FactD K "is_summer" s_is_summer)
    (d_next_turn : FactD K "next_turn" s_next_turn)
    (d_ahead_by : FactD K "ahead_by" s_ahead_by)
    (d_possible_aheads : FactD K "possible_aheads" s_possible_aheads)
    (d_Place_init : FactI K "Place.__init__" cPlace s_Place_init)
    (d_has_decree_from : FactD K "has_decree_from" s_has_decree_from)
    (d_take_decree : FactD K "take_decree" s_take_decree)
    (d_put_decree : FactL K "put_decree" s_put_decree cd_put_decree) (t_put_decree : PySem.W.tabIn K "put_decree" = some (co_put_decree, Tb_put_decree)) (e_put_decree : cd_put_decree = .ref co_put_decree)
    (d_decree_in_force : FactD K "decree_in_force" s_decree_in_force)
    (d_ahead_at : FactD K "ahead_at" s_ahead_at)
    (d_shown_at : FactD K "shown_at" s_shown_at)
    (d_moments_showing : FactD K "moments_showing" s_moments_showing)
    (d_changes_at : FactD K "changes_at" s_changes_at)
    (d_next_change : FactD K "next_change" s_next_change)
    (d_first_showing_more : FactD K "first_showing_more" s_first_showing_more)
    (d_moment_meant : FactD K "moment_meant" s_moment_meant)
    (d_Reader_init : FactI K "Reader.__init__" cReader s_Reader_init)
    (d_Reader_is_done : FactM K "is_done" "Reader.is_done" cReader s_Reader_is_done)
    (d_Reader_take_number : FactM K "take_number" "Reader.take_number" cReader s_Reader_take_number)
    (d_Reader_take_row : FactM K "take_row" "Reader.take_row" cReader s_Reader_take_row)
    (d_read_given : FactD K "read_given" s_read_given)
    (d_Kept_init : FactI K "Kept.__init__" cKept s_Kept_init)
    (d_Atlas_init : FactI K "Atlas.__init__" cAtlas s_Atlas_init)
    (d_has_place : FactD K "has_place" s_has_place)
    (d_has_kept : FactD K "has_kept" s_has_kept)
    (d_add_place : FactD K "add_place" s_add_place)
    (d_lay_down : FactD K "lay_down" s_lay_down)
    (d_add_decree : FactD K "add_decree" s_add_decree)
    (d_makes_summer : FactD K "makes_summer" s_makes_summer)
    (d_add_summer : FactD K "add_summer" s_add_summer)
    (d_drop_decree : FactD K "drop_decree" s_drop_decree)
    (d_tell_offset : FactD K "tell_offset" s_tell_offset)
    (d_date_and_time : FactD K "date_and_time" s_date_and_time)
    (d_shown_with_date : FactD K "shown_with_date" s_shown_with_date)
    (d_tell_shown : FactD K "tell_shown" s_tell_shown)
    (d_tell_moments : FactD K "tell_moments" s_tell_moments)
    (d_meant_by : FactD K "meant_by" s_meant_by)
    (d_tell_meant : FactD K "tell_meant" s_tell_meant)
    (d_tell_change : FactD K "tell_change" s_tell_change)
    (d_keep_shown : FactD K "keep_shown" s_keep_shown)
    (d_tell_when : FactD K "tell_when" s_tell_when)
    (d_tell_there : FactD K "tell_there" s_tell_there)
    (d_tell_ahead : FactD K "tell_ahead" s_tell_ahead)
    (d_answer_call : FactD K "answer_call" s_answer_call)
    (d_answers : FactD K "answers" s_answers)
    (g_MINUTES_OF_DAY : FactG K "MINUTES_OF_DAY" 1440)
    (g_MOMENT_COUNT : FactG K "MOMENT_COUNT" 52596000)
    (g_FIRST_YEAR : FactG K "FIRST_YEAR" 2000)
    (g_DAYS_OF_FOUR_YEARS : FactG K "DAYS_OF_FOUR_YEARS" 1461)
    (g_DAYS_OF_LEAP_YEAR : FactG K "DAYS_OF_LEAP_YEAR" 366)
    (g_DAYS_OF_YEAR : FactG K "DAYS_OF_YEAR" 365)
    (g_MOST_OFFSET : FactG K "MOST_OFFSET" 840)
    (g_MOST_MORE : FactG K "MOST_MORE" 120)
    (g_MOST_RANK : FactG K "MOST_RANK" 4)
    (g_TURN_SIZE : FactG K "TURN_SIZE" 5)
    (g_FURTHEST_BACK : FactG K "FURTHEST_BACK" 1000)
    (g_PLACE : FactG K "PLACE" 0)
    (g_DECREE : FactG K "DECREE" 1)
    (g_SUMMER : FactG K "SUMMER" 2)
    (g_DROP : FactG K "DROP" 3)
    (g_OFFSET : FactG K "OFFSET" 4)
    (g_SHOWS : FactG K "SHOWS" 5)
    (g_MOMENTS : FactG K "MOMENTS" 6)
    (g_MEANT : FactG K "MEANT" 7)
    (g_CHANGE : FactG K "CHANGE" 8)
    (g_KEEP : FactG K "KEEP" 9)
    (g_WHEN : FactG K "WHEN" 10)
    (g_THERE : FactG K "THERE" 11)
    (g_OUT_OF_BOUNDS : FactG K "OUT_OF_BOUNDS" (-1))
    (g_NONE_SUCH : FactG K "NONE_SUCH" (-3))
    (g_NO_SUCH_DECREE : FactG K "NO_SUCH_DECREE" (-4))
    (g_NO_ROOM : FactG K "NO_ROOM" (-5))
    (g_NO_MOMENT : FactG K "NO_MOMENT" (-6))
    (g_MOST_PLACES : FactG K "MOST_PLACES" 6)
    (g_MOST_DECREES : FactG K "MOST_DECREES" 8)
    (g_MOST_KEPT : FactG K "MOST_KEPT" 20)
    (g_OFFSET_ANSWERED_FOR_NONE : FactG K "OFFSET_ANSWERED_FOR_NONE" 1000)
    (no_Tb : K.lookup Tb_put_decree = none) {dr : DefRec} (rec_put_decree : (PyProof.Rows.recsOf q).find? (fun e => e.name == ("put_decree" : Str)) = some dr)
    (n_len : PySem.W.nsIn K mainGlobals "len" = some none) (n_range : PySem.W.nsIn K mainGlobals "range" = some none) (n_any : PySem.W.nsIn K mainGlobals "any" = some none) (n_set : PySem.W.nsIn K mainGlobals "set" = some none) (n_sorted : PySem.W.nsIn K mainGlobals "sorted" = some none)
    (a_ML : PySem.W.nsIn K mainGlobals "MONTH_LENGTHS" = some (some (.ref aML))) (l_ML : ∀ H, SqT K H aML ([31, 28, 31, 30, 31, 30, 31, 31, 30, 31, 30, 31].map V.int))
    (n_min : PySem.W.nsIn K mainGlobals "min" = some none) (n_max : PySem.W.nsIn K mainGlobals "max" = some none) (a_SH : PySem.W.nsIn K mainGlobals "SHAPES" = some (some (.ref aSH))) (l_SH : ∀ H, SqT K H aSH ([t0, t1, t2, t3, t4, t5, t6, t7, t8, t9, t10, t11, t12].map V.ref))
    (l_S0 : ∀ H, SqT K H t0 [.int 1, .int 0]) (l_S1 : ∀ H, SqT K H t1 [.int 3, .int 0]) (l_S2 : ∀ H, SqT K H t2 [.int 4, .int 2]) (l_S3 : ∀ H, SqT K H t3 [.int 2, .int 0]) (l_S4 : ∀ H, SqT K H t4 [.int 2, .int 0]) (l_S5 : ∀ H, SqT K H t5 [.int 2, .int 0]) (l_S6 : ∀ H, SqT K H t6 [.int 2, .int 0]) (l_S7 : ∀ H, SqT K H t7 [.int 2, .int 0]) (l_S8 : ∀ H, SqT K H t8 [.int 2, .int 0]) (l_S9 : ∀ H, SqT K H t9 [.int 2, .int 0]) (l_S10 : ∀ H, SqT K H t10 [.int 1, .int 0]) (l_S11 : ∀ H, SqT K H t11 [.int 2, .int 0]) (l_S12 : ∀ H, SqT K H t12 [.int 1, .int 0]) :
    ∃ (fd : FuncData) (cs : List (Addr × Addr)), (∀ p ∈ cs, PcR.TabOf q K p.1 p.2) ∧ (∀ (s : Shared) (u : Value), BindsTo s fd ⟨[u], []⟩ [("calls", u)]) ∧
      (∀ base : Heap, K.In base → base.Ns mainGlobals mg → (∀ p ∈ cs, LamX.TabB base mg p.1 p.2) → FnOk P w K mg base CX0 21 fa fd ["calls"] (spAnswers K cs)) := by
  have iTurn : IsTurn K mg cTurn := ⟨c_Turn.cl, c_Turn.at_ X G, n_Turn_from_end, n_Turn_rank, n_Turn_weekday, n_Turn_month, n_Turn_minute⟩
  have iSummer : IsSummer K mg cSummer := ⟨c_Summer.cl, c_Summer.at_ X G, n_Summer_more, n_Summer_begins, n_Summer_ends⟩
  have iDecree : IsDecree K mg cDecree := ⟨c_Decree.cl, c_Decree.at_ X G, n_Decree_moment, n_Decree_offset, n_Decree_summer⟩
  have iPlace : IsPlace K mg cPlace := ⟨c_Place.cl, c_Place.at_ X G, n_Place_decrees⟩
  have iReader : IsReader K mg cReader := ⟨c_Reader.cl, c_Reader.at_ X G, n_Reader_numbers, n_Reader_at⟩
  have iKept : IsKept K mg cKept := ⟨c_Kept.cl, c_Kept.at_ X G, n_Kept_place, n_Kept_shown⟩
  have iAtlas : IsAtlas K mg cAtlas := ⟨c_Atlas.cl, c_Atlas.at_ X G, n_Atlas_places, n_Atlas_kept⟩
  have D_is_moment : Def K mg "is_moment" s_is_moment ["number"] := d_is_moment.mk X G (fun _ _ _ _ _ _ us hl => match us, hl with | [_], _ => rfl)
  have D_weekday_of : Def K mg "weekday_of" s_weekday_of ["day"] := d_weekday_of.mk X G (fun _ _ _ _ _ _ us hl => match us, hl with | [_], _ => rfl)
  have D_year_of : Def K mg "year_of" s_year_of ["day"] := d_year_of.mk X G (fun _ _ _ _ _ _ us hl => match us, hl with | [_], _ => rfl)
  have D_month_length : Def K mg "month_length" s_month_length ["year", "month"] := d_month_length.mk X G (fun _ _ _ _ _ _ us hl => match us, hl with | [_, _], _ => rfl)
  have D_first_day_of_year : Def K mg "first_day_of_year" s_first_day_of_year ["year"] := d_first_day_of_year.mk X G (fun _ _ _ _ _ _ us hl => match us, hl with | [_], _ => rfl)
  have D_first_day_of_month : Def K mg "first_day_of_month" s_first_day_of_month ["year", "month"] := d_first_day_of_month.mk X G (fun _ _ _ _ _ _ us hl => match us, hl with | [_, _], _ => rfl)
  have D_date_of : Def K mg "date_of" s_date_of ["day"] := d_date_of.mk X G (fun _ _ _ _ _ _ us hl => match us, hl with | [_], _ => rfl)
  have D_Turn_init : Ini K "Turn.__init__" cTurn s_Turn_init ["self", "row"] := d_Turn_init.mk c_Turn (fun _ _ _ _ _ _ us hl => match us, hl with | [_, _], _ => rfl)
  have D_Summer_init : Ini K "Summer.__init__" cSummer s_Summer_init ["self", "more", "begins", "ends"] := d_Summer_init.mk c_Summer (fun _ _ _ _ _ _ us hl => match us, hl with | [_, _, _, _], _ => rfl)
  have D_Decree_init : Ini K "Decree.__init__" cDecree s_Decree_init ["self", "moment", "offset", "summer"] := d_Decree_init.mk c_Decree (fun _ _ _ _ _ _ us hl => match us, hl with | [_, _, _, _], _ => rfl)
  have D_is_offset : Def K mg "is_offset" s_is_offset ["number"] := d_is_offset.mk X G (fun _ _ _ _ _ _ us hl => match us, hl with | [_], _ => rfl)
  have D_is_more : Def K mg "is_more" s_is_more ["number"] := d_is_more.mk X G (fun _ _ _ _ _ _ us hl => match us, hl with | [_], _ => rfl)
  have D_is_turn : Def K mg "is_turn" s_is_turn ["row"] := d_is_turn.mk X G (fun _ _ _ _ _ _ us hl => match us, hl with | [_], _ => rfl)
  have D_day_of_turn : Def K mg "day_of_turn" s_day_of_turn ["turn", "year"] := d_day_of_turn.mk X G (fun _ _ _ _ _ _ us hl => match us, hl with | [_, _], _ => rfl)
  have D_moment_of_turn : Def K mg "moment_of_turn" s_moment_of_turn ["turn", "year"] := d_moment_of_turn.mk X G (fun _ _ _ _ _ _ us hl => match us, hl with | [_, _], _ => rfl)
  have D_is_summer : Def K mg "is_summer" s_is_summer ["summer", "moment"] := d_is_summer.mk X G (fun _ _ _ _ _ _ us hl => match us, hl with | [_, _], _ => rfl)
  have D_next_turn : Def K mg "next_turn" s_next_turn ["summer", "moment"] := d_next_turn.mk X G (fun _ _ _ _ _ _ us hl => match us, hl with | [_, _], _ => rfl)
  have D_ahead_by : Def K mg "ahead_by" s_ahead_by ["decree", "moment"] := d_ahead_by.mk X G (fun _ _ _ _ _ _ us hl => match us, hl with | [_, _], _ => rfl)
  have D_possible_aheads : Def K mg "possible_aheads" s_possible_aheads ["decree"] := d_possible_aheads.mk X G (fun _ _ _ _ _ _ us hl => match us, hl with | [_], _ => rfl)
  have D_Place_init : Ini K "Place.__init__" cPlace s_Place_init ["self", "offset"] := d_Place_init.mk c_Place (fun _ _ _ _ _ _ us hl => match us, hl with | [_, _], _ => rfl)
  have D_has_decree_from : Def K mg "has_decree_from" s_has_decree_from ["place", "moment"] := d_has_decree_from.mk X G (fun _ _ _ _ _ _ us hl => match us, hl with | [_, _], _ => rfl)
  have D_take_decree : Def K mg "take_decree" s_take_decree ["place", "moment"] := d_take_decree.mk X G (fun _ _ _ _ _ _ us hl => match us, hl with | [_, _], _ => rfl)
  have D_put_decree : DefC K mg "put_decree" s_put_decree ["place", "decree"] co_put_decree := d_put_decree.mk X G e_put_decree (fun _ _ _ _ _ _ us hl => match us, hl with | [_, _], _ => rfl)
  have D_decree_in_force : Def K mg "decree_in_force" s_decree_in_force ["place", "moment"] := d_decree_in_force.mk X G (fun _ _ _ _ _ _ us hl => match us, hl with | [_, _], _ => rfl)
  have D_ahead_at : Def K mg "ahead_at" s_ahead_at ["place", "moment"] := d_ahead_at.mk X G (fun _ _ _ _ _ _ us hl => match us, hl with | [_, _], _ => rfl)
  have D_shown_at : Def K mg "shown_at" s_shown_at ["place", "moment"] := d_shown_at.mk X G (fun _ _ _ _ _ _ us hl => match us, hl with | [_, _], _ => rfl)
  have D_moments_showing : Def K mg "moments_showing" s_moments_showing ["place", "shown"] := d_moments_showing.mk X G (fun _ _ _ _ _ _ us hl => match us, hl with | [_, _], _ => rfl)
  have D_changes_at : Def K mg "changes_at" s_changes_at ["place", "moment"] := d_changes_at.mk X G (fun _ _ _ _ _ _ us hl => match us, hl with | [_, _], _ => rfl)
  have D_next_change : Def K mg "next_change" s_next_change ["place", "moment"] := d_next_change.mk X G (fun _ _ _ _ _ _ us hl => match us, hl with | [_, _], _ => rfl)
  have D_first_showing_more : Def K mg "first_showing_more" s_first_showing_more ["place", "shown"] := d_first_showing_more.mk X G (fun _ _ _ _ _ _ us hl => match us, hl with | [_, _], _ => rfl)
  have D_moment_meant : Def K mg "moment_meant" s_moment_meant ["place", "shown"] := d_moment_meant.mk X G (fun _ _ _ _ _ _ us hl => match us, hl with | [_, _], _ => rfl)
  have D_Reader_init : Ini K "Reader.__init__" cReader s_Reader_init ["self", "numbers"] := d_Reader_init.mk c_Reader (fun _ _ _ _ _ _ us hl => match us, hl with | [_, _], _ => rfl)
  have D_Reader_is_done : Mth K "is_done" "Reader.is_done" cReader s_Reader_is_done ["self"] := d_Reader_is_done.mk (fun _ _ _ _ _ _ us hl => match us, hl with | [_], _ => rfl)
  have D_Reader_take_number : Mth K "take_number" "Reader.take_number" cReader s_Reader_take_number ["self"] := d_Reader_take_number.mk (fun _ _ _ _ _ _ us hl => match us, hl with | [_], _ => rfl)
  have D_Reader_take_row : Mth K "take_row" "Reader.take_row" cReader s_Reader_take_row ["self"] := d_Reader_take_row.mk (fun _ _ _ _ _ _ us hl => match us, hl with | [_], _ => rfl)
  have D_read_given : Def K mg "read_given" s_read_given ["reader", "number_count", "row_count"] := d_read_given.mk X G (fun _ _ _ _ _ _ us hl => match us, hl with | [_, _, _], _ => rfl)
  have D_Kept_init : Ini K "Kept.__init__" cKept s_Kept_init ["self", "place", "shown"] := d_Kept_init.mk c_Kept (fun _ _ _ _ _ _ us hl => match us, hl with | [_, _, _], _ => rfl)
  have D_Atlas_init : Ini K "Atlas.__init__" cAtlas s_Atlas_init ["self"] := d_Atlas_init.mk c_Atlas (fun _ _ _ _ _ _ us hl => match us, hl with | [_], _ => rfl)
  have D_has_place : Def K mg "has_place" s_has_place ["atlas", "number"] := d_has_place.mk X G (fun _ _ _ _ _ _ us hl => match us, hl with | [_, _], _ => rfl)
  have D_has_kept : Def K mg "has_kept" s_has_kept ["atlas", "number"] := d_has_kept.mk X G (fun _ _ _ _ _ _ us hl => match us, hl with | [_, _], _ => rfl)
  have D_add_place : Def K mg "add_place" s_add_place ["atlas", "offset"] := d_add_place.mk X G (fun _ _ _ _ _ _ us hl => match us, hl with | [_, _], _ => rfl)
  have D_lay_down : Def K mg "lay_down" s_lay_down ["place", "decree"] := d_lay_down.mk X G (fun _ _ _ _ _ _ us hl => match us, hl with | [_, _], _ => rfl)
  have D_add_decree : Def K mg "add_decree" s_add_decree ["atlas", "number", "moment", "offset"] := d_add_decree.mk X G (fun _ _ _ _ _ _ us hl => match us, hl with | [_, _, _, _], _ => rfl)
  have D_makes_summer : Def K mg "makes_summer" s_makes_summer ["more", "begins", "ends"] := d_makes_summer.mk X G (fun _ _ _ _ _ _ us hl => match us, hl with | [_, _, _], _ => rfl)
  have D_add_summer : Def K mg "add_summer" s_add_summer ["atlas", "number", "moment", "offset", "more", "begins", "ends"] := d_add_summer.mk X G (fun _ _ _ _ _ _ us hl => match us, hl with | [_, _, _, _, _, _, _], _ => rfl)
  have D_drop_decree : Def K mg "drop_decree" s_drop_decree ["atlas", "number", "moment"] := d_drop_decree.mk X G (fun _ _ _ _ _ _ us hl => match us, hl with | [_, _, _], _ => rfl)
  have D_tell_offset : Def K mg "tell_offset" s_tell_offset ["atlas", "number", "moment"] := d_tell_offset.mk X G (fun _ _ _ _ _ _ us hl => match us, hl with | [_, _, _], _ => rfl)
  have D_date_and_time : Def K mg "date_and_time" s_date_and_time ["shown"] := d_date_and_time.mk X G (fun _ _ _ _ _ _ us hl => match us, hl with | [_], _ => rfl)
  have D_shown_with_date : Def K mg "shown_with_date" s_shown_with_date ["place", "moment"] := d_shown_with_date.mk X G (fun _ _ _ _ _ _ us hl => match us, hl with | [_, _], _ => rfl)
  have D_tell_shown : Def K mg "tell_shown" s_tell_shown ["atlas", "number", "moment"] := d_tell_shown.mk X G (fun _ _ _ _ _ _ us hl => match us, hl with | [_, _, _], _ => rfl)
  have D_tell_moments : Def K mg "tell_moments" s_tell_moments ["atlas", "number", "shown"] := d_tell_moments.mk X G (fun _ _ _ _ _ _ us hl => match us, hl with | [_, _, _], _ => rfl)
  have D_meant_by : Def K mg "meant_by" s_meant_by ["place", "shown"] := d_meant_by.mk X G (fun _ _ _ _ _ _ us hl => match us, hl with | [_, _], _ => rfl)
  have D_tell_meant : Def K mg "tell_meant" s_tell_meant ["atlas", "number", "shown"] := d_tell_meant.mk X G (fun _ _ _ _ _ _ us hl => match us, hl with | [_, _, _], _ => rfl)
  have D_tell_change : Def K mg "tell_change" s_tell_change ["atlas", "number", "moment"] := d_tell_change.mk X G (fun _ _ _ _ _ _ us hl => match us, hl with | [_, _, _], _ => rfl)
  have D_keep_shown : Def K mg "keep_shown" s_keep_shown ["atlas", "number", "shown"] := d_keep_shown.mk X G (fun _ _ _ _ _ _ us hl => match us, hl with | [_, _, _], _ => rfl)
  have D_tell_when : Def K mg "tell_when" s_tell_when ["atlas", "number"] := d_tell_when.mk X G (fun _ _ _ _ _ _ us hl => match us, hl with | [_, _], _ => rfl)
  have D_tell_there : Def K mg "tell_there" s_tell_there ["atlas", "kept_number", "place_number"] := d_tell_there.mk X G (fun _ _ _ _ _ _ us hl => match us, hl with | [_, _, _], _ => rfl)
  have D_tell_ahead : Def K mg "tell_ahead" s_tell_ahead ["atlas", "moment"] := d_tell_ahead.mk X G (fun _ _ _ _ _ _ us hl => match us, hl with | [_, _], _ => rfl)
  have D_answer_call : Def K mg "answer_call" s_answer_call ["atlas", "call", "given"] := d_answer_call.mk X G (fun _ _ _ _ _ _ us hl => match us, hl with | [_, _, _], _ => rfl)
  have D_answers : Def K mg "answers" s_answers ["calls"] := d_answers.mk X G (fun _ _ _ _ _ _ us hl => match us, hl with | [_], _ => rfl)
  have G_MINUTES_OF_DAY : Cst mg "MINUTES_OF_DAY" 1440 := g_MINUTES_OF_DAY.mk X G
  have G_MOMENT_COUNT : Cst mg "MOMENT_COUNT" 52596000 := g_MOMENT_COUNT.mk X G
  have G_FIRST_YEAR : Cst mg "FIRST_YEAR" 2000 := g_FIRST_YEAR.mk X G
  have G_DAYS_OF_FOUR_YEARS : Cst mg "DAYS_OF_FOUR_YEARS" 1461 := g_DAYS_OF_FOUR_YEARS.mk X G
  have G_DAYS_OF_LEAP_YEAR : Cst mg "DAYS_OF_LEAP_YEAR" 366 := g_DAYS_OF_LEAP_YEAR.mk X G
  have G_DAYS_OF_YEAR : Cst mg "DAYS_OF_YEAR" 365 := g_DAYS_OF_YEAR.mk X G
  have G_MOST_OFFSET : Cst mg "MOST_OFFSET" 840 := g_MOST_OFFSET.mk X G
  have G_MOST_MORE : Cst mg "MOST_MORE" 120 := g_MOST_MORE.mk X G
  have G_MOST_RANK : Cst mg "MOST_RANK" 4 := g_MOST_RANK.mk X G
  have G_TURN_SIZE : Cst mg "TURN_SIZE" 5 := g_TURN_SIZE.mk X G
  have G_FURTHEST_BACK : Cst mg "FURTHEST_BACK" 1000 := g_FURTHEST_BACK.mk X G
  have G_PLACE : Cst mg "PLACE" 0 := g_PLACE.mk X G
  have G_DECREE : Cst mg "DECREE" 1 := g_DECREE.mk X G
  have G_SUMMER : Cst mg "SUMMER" 2 := g_SUMMER.mk X G
  have G_DROP : Cst mg "DROP" 3 := g_DROP.mk X G
  have G_OFFSET : Cst mg "OFFSET" 4 := g_OFFSET.mk X G
  have G_SHOWS : Cst mg "SHOWS" 5 := g_SHOWS.mk X G
  have G_MOMENTS : Cst mg "MOMENTS" 6 := g_MOMENTS.mk X G
  have G_MEANT : Cst mg "MEANT" 7 := g_MEANT.mk X G
  have G_CHANGE : Cst mg "CHANGE" 8 := g_CHANGE.mk X G
  have G_KEEP : Cst mg "KEEP" 9 := g_KEEP.mk X G
  have G_WHEN : Cst mg "WHEN" 10 := g_WHEN.mk X G
  have G_THERE : Cst mg "THERE" 11 := g_THERE.mk X G
  have G_OUT_OF_BOUNDS : Cst mg "OUT_OF_BOUNDS" (-1) := g_OUT_OF_BOUNDS.mk X G
  have G_NONE_SUCH : Cst mg "NONE_SUCH" (-3) := g_NONE_SUCH.mk X G
  have G_NO_SUCH_DECREE : Cst mg "NO_SUCH_DECREE" (-4) := g_NO_SUCH_DECREE.mk X G
  have G_NO_ROOM : Cst mg "NO_ROOM" (-5) := g_NO_ROOM.mk X G
  have G_NO_MOMENT : Cst mg "NO_MOMENT" (-6) := g_NO_MOMENT.mk X G
  have G_MOST_PLACES : Cst mg "MOST_PLACES" 6 := g_MOST_PLACES.mk X G
  have G_MOST_DECREES : Cst mg "MOST_DECREES" 8 := g_MOST_DECREES.mk X G
  have G_MOST_KEPT : Cst mg "MOST_KEPT" 20 := g_MOST_KEPT.mk X G
  have G_OFFSET_ANSWERED_FOR_NONE : Cst mg "OFFSET_ANSWERED_FOR_NONE" 1000 := g_OFFSET_ANSWERED_FOR_NONE.mk X G
  have T : Txt mg := ⟨G_MINUTES_OF_DAY, G_MOMENT_COUNT, G_FIRST_YEAR, G_DAYS_OF_FOUR_YEARS, G_DAYS_OF_LEAP_YEAR, G_DAYS_OF_YEAR, G_MOST_OFFSET, G_MOST_MORE, G_MOST_RANK, G_TURN_SIZE, G_FURTHEST_BACK, G_PLACE, G_DECREE, G_SUMMER, G_DROP, G_OFFSET, G_SHOWS, G_MOMENTS, G_MEANT, G_CHANGE, G_KEEP, G_WHEN, G_THERE, G_OUT_OF_BOUNDS, G_NONE_SUCH, G_NO_SUCH_DECREE, G_NO_ROOM, G_NO_MOMENT, G_MOST_PLACES, G_MOST_DECREES, G_MOST_KEPT, G_OFFSET_ANSWERED_FOR_NONE, FactD.free X G n_len, FactD.free X G n_range, FactD.free X G n_any, FactD.free X G n_set, FactD.free X G n_sorted, FactD.free X G n_min, FactD.free X G n_max⟩
  have S : ShT K mg := shT_of (PySem.W.mg_of X G a_SH) l_SH l_S0 l_S1 l_S2 l_S3 l_S4 l_S5 l_S6 l_S7 l_S8 l_S9 l_S10 l_S11 l_S12
  have L : LenT K mg := ⟨aML, PySem.W.mg_of X G a_ML, l_ML⟩
  obtain ⟨f, oc, od, kV, dc, pm, an, cd, ct, sl, a, l, c, kp⟩ := d_answers
  have e := hfa.symm.trans (PySem.W.mg_of X G a)
  cases e
  refine ⟨PySem.W.fnOf "answers" "answers" (defArgs s_answers) (defBody s_answers) (defScope s_answers) .none kV dc pm an cd ct, [(co_put_decree, Tb_put_decree)], fun p hp => ?_, fun s u => .of_eq rfl, fun base Xb Gb hTB => ?_⟩
  · rw [show p = _ from List.mem_singleton.mp hp]
    exact ⟨⟨_, _, rec_put_decree, t_put_decree⟩, no_Tb⟩
  · have TB : LamX.TabB base mg co_put_decree Tb_put_decree := hTB _ (List.mem_singleton.mpr rfl)
    have I_is_moment := ok_is_moment (P := P) (w := w) (base := base) T D_is_moment
    have I_weekday_of := ok_weekday_of (P := P) (w := w) (base := base) D_weekday_of
    have I_year_of := ok_year_of (P := P) (w := w) (base := base) T D_year_of
    have I_month_length := ok_month_length (P := P) (w := w) (base := base) L D_month_length
    have I_first_day_of_year := ok_first_day_of_year (P := P) (w := w) (base := base) T D_first_day_of_year
    have I_first_day_of_month := ok_first_day_of_month (P := P) (w := w) (base := base) T I_first_day_of_year I_month_length D_first_day_of_month
    have I_date_of := ok_date_of (P := P) (w := w) (base := base) T I_year_of I_first_day_of_year I_month_length D_date_of
    have I_is_offset := ok_is_offset (P := P) (w := w) (base := base) T D_is_offset
    have I_is_more := ok_is_more (P := P) (w := w) (base := base) T D_is_more
    have I_Turn := ok_Turn_init (P := P) (w := w) (base := base) (cT := cTurn) iTurn D_Turn_init
    have I_Summer := ok_Summer_init (P := P) (w := w) (base := base) (cS := cSummer) iSummer D_Summer_init
    have I_Decree := ok_Decree_init (P := P) (w := w) (base := base) (cD := cDecree) iDecree D_Decree_init
    have I_is_turn := ok_is_turn (P := P) (w := w) (base := base) T D_is_turn
    have I_day_of_turn := ok_day_of_turn (P := P) (w := w) (base := base) (cT := cTurn) iTurn I_first_day_of_month I_month_length I_weekday_of D_day_of_turn
    have I_moment_of_turn := ok_moment_of_turn (P := P) (w := w) (base := base) (cT := cTurn) T iTurn I_day_of_turn D_moment_of_turn
    have I_is_summer := ok_is_summer (P := P) (w := w) (base := base) (cT := cTurn) (cS := cSummer) T iSummer I_year_of I_moment_of_turn D_is_summer
    have I_ahead_by := ok_ahead_by (P := P) (w := w) (base := base) (cT := cTurn) (cS := cSummer) (cD := cDecree) T iSummer iDecree I_is_summer D_ahead_by
    have I_possible_aheads := ok_possible_aheads (P := P) (w := w) (base := base) (cT := cTurn) (cS := cSummer) (cD := cDecree) iSummer iDecree D_possible_aheads
    have I_next_turn := ok_next_turn (P := P) (w := w) (base := base) (cT := cTurn) (cS := cSummer) T iSummer I_year_of I_moment_of_turn D_next_turn
    have I_Place := ok_Place_init (P := P) (w := w) (base := base) (cT := cTurn) (cS := cSummer) (cD := cDecree) (cP := cPlace) iDecree iPlace I_Decree D_Place_init
    have I_has_decree_from := ok_has_decree_from (P := P) (w := w) (base := base) (cT := cTurn) (cS := cSummer) (cD := cDecree) (cP := cPlace) T iDecree iPlace D_has_decree_from
    have I_take_decree := ok_take_decree (P := P) (w := w) (base := base) (cT := cTurn) (cS := cSummer) (cD := cDecree) (cP := cPlace) iDecree iPlace D_take_decree
    have I_put_decree := ok_put_decree (P := P) (w := w) (base := base) (cT := cTurn) (cS := cSummer) (cD := cDecree) (cP := cPlace) T iDecree iPlace I_take_decree TB D_put_decree
    have I_decree_in_force := ok_decree_in_force (P := P) (w := w) (base := base) (cT := cTurn) (cS := cSummer) (cD := cDecree) (cP := cPlace) iDecree iPlace D_decree_in_force
    have I_ahead_at := ok_ahead_at (P := P) (w := w) (base := base) (cT := cTurn) (cS := cSummer) (cD := cDecree) (cP := cPlace) I_decree_in_force I_ahead_by D_ahead_at
    have I_shown_at := ok_shown_at (P := P) (w := w) (base := base) (cT := cTurn) (cS := cSummer) (cD := cDecree) (cP := cPlace) I_ahead_at D_shown_at
    have I_moments_showing := ok_moments_showing (P := P) (w := w) (base := base) (cT := cTurn) (cS := cSummer) (cD := cDecree) (cP := cPlace) T iDecree iPlace I_possible_aheads I_is_moment I_shown_at D_moments_showing
    have I_changes_at := ok_changes_at (P := P) (w := w) (base := base) (cT := cTurn) (cS := cSummer) (cD := cDecree) (cP := cPlace) I_ahead_at D_changes_at
    have I_next_change := ok_next_change (P := P) (w := w) (base := base) (cT := cTurn) (cS := cSummer) (cD := cDecree) (cP := cPlace) T iDecree iPlace I_is_moment I_next_turn I_changes_at D_next_change
    have I_first_showing_more := ok_first_showing_more (P := P) (w := w) (base := base) (cT := cTurn) (cS := cSummer) (cD := cDecree) (cP := cPlace) T I_is_moment I_shown_at I_next_change D_first_showing_more
    have I_moment_meant := ok_moment_meant (P := P) (w := w) (base := base) (cT := cTurn) (cS := cSummer) (cD := cDecree) (cP := cPlace) T I_moments_showing I_first_showing_more D_moment_meant
    have I_Reader := ok_Reader_init (P := P) (w := w) (base := base) (cR := cReader) iReader D_Reader_init
    have I_is_done := ok_is_done (P := P) (w := w) (base := base) (cR := cReader) T iReader D_Reader_is_done
    have I_take_number := ok_take_number (P := P) (w := w) (base := base) (cR := cReader) iReader D_Reader_take_number
    have I_take_row := ok_take_row (P := P) (w := w) (base := base) (cR := cReader) iReader I_take_number D_Reader_take_row
    have I_read_given := ok_read_given (P := P) (w := w) (base := base) (cR := cReader) T iReader I_take_number I_take_row D_read_given
    have I_Atlas := ok_Atlas_init (P := P) (w := w) (base := base) (k := ⟨cTurn, cSummer, cDecree, cPlace, cAtlas, cKept, Tb_put_decree⟩) iAtlas D_Atlas_init
    have I_has_place := ok_has_place (P := P) (w := w) (base := base) (k := ⟨cTurn, cSummer, cDecree, cPlace, cAtlas, cKept, Tb_put_decree⟩) T iAtlas D_has_place
    have I_add_place := ok_add_place (P := P) (w := w) (base := base) (k := ⟨cTurn, cSummer, cDecree, cPlace, cAtlas, cKept, Tb_put_decree⟩) T iAtlas iPlace I_is_offset I_Place D_add_place
    have I_lay_down := ok_lay_down (P := P) (w := w) (base := base) (k := ⟨cTurn, cSummer, cDecree, cPlace, cAtlas, cKept, Tb_put_decree⟩) T iDecree iPlace I_has_decree_from I_put_decree D_lay_down
    have I_add_decree := ok_add_decree (P := P) (w := w) (base := base) (k := ⟨cTurn, cSummer, cDecree, cPlace, cAtlas, cKept, Tb_put_decree⟩) T iAtlas iDecree I_has_place I_is_moment I_is_offset I_Decree I_lay_down D_add_decree
    have I_makes_summer := ok_makes_summer (P := P) (w := w) (base := base) (k := ⟨cTurn, cSummer, cDecree, cPlace, cAtlas, cKept, Tb_put_decree⟩) iTurn I_is_more I_is_turn I_Turn D_makes_summer
    have I_drop_decree := ok_drop_decree (P := P) (w := w) (base := base) (k := ⟨cTurn, cSummer, cDecree, cPlace, cAtlas, cKept, Tb_put_decree⟩) T iAtlas iPlace I_has_place I_has_decree_from I_take_decree D_drop_decree
    have I_tell_offset := ok_tell_offset (P := P) (w := w) (base := base) (k := ⟨cTurn, cSummer, cDecree, cPlace, cAtlas, cKept, Tb_put_decree⟩) T iAtlas I_has_place I_is_moment I_ahead_at D_tell_offset
    have I_add_summer := ok_add_summer (P := P) (w := w) (base := base) (k := ⟨cTurn, cSummer, cDecree, cPlace, cAtlas, cKept, Tb_put_decree⟩) T iAtlas iTurn iSummer iDecree I_has_place I_is_moment I_is_offset I_makes_summer I_Turn I_Summer I_Decree I_lay_down D_add_summer
    have I_date_and_time := ok_date_and_time (P := P) (w := w) (base := base) T I_date_of I_weekday_of D_date_and_time
    have I_tell_moments := ok_tell_moments (P := P) (w := w) (base := base) (k := ⟨cTurn, cSummer, cDecree, cPlace, cAtlas, cKept, Tb_put_decree⟩) T iAtlas I_has_place I_moments_showing D_tell_moments
    have I_shown_with_date := ok_shown_with_date (P := P) (w := w) (base := base) (k := ⟨cTurn, cSummer, cDecree, cPlace, cAtlas, cKept, Tb_put_decree⟩) I_is_moment I_shown_at I_date_and_time D_shown_with_date
    have I_tell_shown := ok_tell_shown (P := P) (w := w) (base := base) (k := ⟨cTurn, cSummer, cDecree, cPlace, cAtlas, cKept, Tb_put_decree⟩) T iAtlas I_has_place I_is_moment I_shown_with_date D_tell_shown
    have I_Kept := ok_Kept_init (P := P) (w := w) (base := base) (k := ⟨cTurn, cSummer, cDecree, cPlace, cAtlas, cKept, Tb_put_decree⟩) iKept D_Kept_init
    have I_has_kept := ok_has_kept (P := P) (w := w) (base := base) (k := ⟨cTurn, cSummer, cDecree, cPlace, cAtlas, cKept, Tb_put_decree⟩) T iAtlas D_has_kept
    have I_meant_by := ok_meant_by (P := P) (w := w) (base := base) (k := ⟨cTurn, cSummer, cDecree, cPlace, cAtlas, cKept, Tb_put_decree⟩) T I_moment_meant I_shown_at D_meant_by
    have I_tell_meant := ok_tell_meant (P := P) (w := w) (base := base) (k := ⟨cTurn, cSummer, cDecree, cPlace, cAtlas, cKept, Tb_put_decree⟩) T iAtlas I_has_place I_meant_by D_tell_meant
    have I_tell_change := ok_tell_change (P := P) (w := w) (base := base) (k := ⟨cTurn, cSummer, cDecree, cPlace, cAtlas, cKept, Tb_put_decree⟩) T iAtlas I_has_place I_is_moment I_next_change I_ahead_at D_tell_change
    have I_keep_shown := ok_keep_shown (P := P) (w := w) (base := base) (k := ⟨cTurn, cSummer, cDecree, cPlace, cAtlas, cKept, Tb_put_decree⟩) T iAtlas iKept I_has_place I_Kept D_keep_shown
    have I_tell_when := ok_tell_when (P := P) (w := w) (base := base) (k := ⟨cTurn, cSummer, cDecree, cPlace, cAtlas, cKept, Tb_put_decree⟩) T iAtlas iKept I_has_kept I_meant_by D_tell_when
    have I_tell_there := ok_tell_there (P := P) (w := w) (base := base) (k := ⟨cTurn, cSummer, cDecree, cPlace, cAtlas, cKept, Tb_put_decree⟩) T iAtlas iKept I_has_kept I_has_place I_moment_meant I_shown_with_date D_tell_there
    have I_tell_ahead := ok_tell_ahead (P := P) (w := w) (base := base) (k := ⟨cTurn, cSummer, cDecree, cPlace, cAtlas, cKept, Tb_put_decree⟩) T iAtlas I_is_moment I_ahead_at D_tell_ahead
    have I_answer_call := ok_answer_call (P := P) (w := w) (base := base) (k := ⟨cTurn, cSummer, cDecree, cPlace, cAtlas, cKept, Tb_put_decree⟩) T I_add_place I_add_decree I_add_summer I_drop_decree I_tell_offset I_tell_shown I_tell_moments I_tell_meant I_tell_change I_keep_shown I_tell_when I_tell_there I_tell_ahead D_answer_call
    exact ok_answers (k := ⟨cTurn, cSummer, cDecree, cPlace, cAtlas, cKept, Tb_put_decree⟩) (cR := cReader) T S iAtlas iReader I_Atlas I_Reader I_is_done I_take_number I_read_given I_answer_call (fun_mk (st := s_answers) l c kp)
end
end Pc
open PySem.W PySem PyProof.Rows
set_option maxHeartbeats 9000000 in
theorem PySem.Challenge.cw_placeclocks_s01_answers_holds : PySem.Challenge.rw_placeclocks_s01_answers.Holds := by
  w_on; k_headS; (case hw => exact ⟨[.list [.int 0, .int 0]], by decide +kernel, by decide +kernel⟩)
  k_fillS
  refine PcR.walk_specT (r := PySem.Challenge.rw_placeclocks_s01_answers) (k := 21) (n := 0) (CX := L2.CX0) (x := "calls") (sp := fun K cs => Pc.spAnswers K cs) (by decide +kernel) rfl rfl (by decide) ⟨rfl, by decide, by decide⟩ (fun w h Y => PySem.W.kIn_of Y) ?F (fun _ _ _ _ z => z)
  case F =>
    intro w mg fa h Y KX G hmg
    refine' (fun z => ?_) (Pc.all_mk (q := PySem.Challenge.cw_placeclocks_s01_answers_holds.view_1) KX G hmg ?c_Turn ?n_Turn_from_end ?n_Turn_rank ?n_Turn_weekday ?n_Turn_month ?n_Turn_minute ?c_Summer ?n_Summer_more ?n_Summer_begins ?n_Summer_ends ?c_Decree ?n_Decree_moment ?n_Decree_offset ?n_Decree_summer ?c_Place ?n_Place_decrees ?c_Reader ?n_Reader_numbers ?n_Reader_at ?c_Kept ?n_Kept_place ?n_Kept_shown ?c_Atlas ?n_Atlas_places ?n_Atlas_kept ?d_is_moment ?d_weekday_of ?d_year_of ?d_month_length ?d_first_day_of_year ?d_first_day_of_month ?d_date_of ?d_Turn_init ?d_Summer_init ?d_Decree_init ?d_is_offset ?d_is_more ?d_is_turn ?d_day_of_turn ?d_moment_of_turn ?d_is_summer ?d_next_turn ?d_ahead_by ?d_possible_aheads ?d_Place_init ?d_has_decree_from ?d_take_decree ?d_put_decree ?t_put_decree ?e_put_decree ?d_decree_in_force ?d_ahead_at ?d_shown_at ?d_moments_showing ?d_changes_at ?d_next_change ?d_first_showing_more ?d_moment_meant ?d_Reader_init ?d_Reader_is_done ?d_Reader_take_number ?d_Reader_take_row ?d_read_given ?d_Kept_init ?d_Atlas_init ?d_has_place ?d_has_kept ?d_add_place ?d_lay_down ?d_add_decree ?d_makes_summer ?d_add_summer ?d_drop_decree ?d_tell_offset ?d_date_and_time ?d_shown_with_date ?d_tell_shown ?d_tell_moments ?d_meant_by ?d_tell_meant ?d_tell_change ?d_keep_shown ?d_tell_when ?d_tell_there ?d_tell_ahead ?d_answer_call ?d_answers ?g_MINUTES_OF_DAY ?g_MOMENT_COUNT ?g_FIRST_YEAR ?g_DAYS_OF_FOUR_YEARS ?g_DAYS_OF_LEAP_YEAR ?g_DAYS_OF_YEAR ?g_MOST_OFFSET ?g_MOST_MORE ?g_MOST_RANK ?g_TURN_SIZE ?g_FURTHEST_BACK ?g_PLACE ?g_DECREE ?g_SUMMER ?g_DROP ?g_OFFSET ?g_SHOWS ?g_MOMENTS ?g_MEANT ?g_CHANGE ?g_KEEP ?g_WHEN ?g_THERE ?g_OUT_OF_BOUNDS ?g_NONE_SUCH ?g_NO_SUCH_DECREE ?g_NO_ROOM ?g_NO_MOMENT ?g_MOST_PLACES ?g_MOST_DECREES ?g_MOST_KEPT ?g_OFFSET_ANSWERED_FOR_NONE ?no_Tb ?rec_put ?n_len ?n_range ?n_any ?n_set ?n_sorted ?a_ML ?l_ML ?n_min ?n_max ?a_SH ?l_SH ?l_S0 ?l_S1 ?l_S2 ?l_S3 ?l_S4 ?l_S5 ?l_S6 ?l_S7 ?l_S8 ?l_S9 ?l_S10 ?l_S11 ?l_S12)
    (case c_Turn => refine' ⟨?a, ?b, ?c, ?d, ?e, ?f, ?g⟩; (case a => k_is); (case b => k_is); (case c => k_is); (case d => k_is); (case e => k_is); (case f => k_is); (case g => k_is))
    (case n_Turn_from_end => k_is)
    (case n_Turn_rank => k_is)
    (case n_Turn_weekday => k_is)
    (case n_Turn_month => k_is)
    (case n_Turn_minute => k_is)
    (case c_Summer => refine' ⟨?a, ?b, ?c, ?d, ?e, ?f, ?g⟩; (case a => k_is); (case b => k_is); (case c => k_is); (case d => k_is); (case e => k_is); (case f => k_is); (case g => k_is))
    (case n_Summer_more => k_is)
    (case n_Summer_begins => k_is)
    (case n_Summer_ends => k_is)
    (case c_Decree => refine' ⟨?a, ?b, ?c, ?d, ?e, ?f, ?g⟩; (case a => k_is); (case b => k_is); (case c => k_is); (case d => k_is); (case e => k_is); (case f => k_is); (case g => k_is))
    (case n_Decree_moment => k_is)
    (case n_Decree_offset => k_is)
    (case n_Decree_summer => k_is)
    (case c_Place => refine' ⟨?a, ?b, ?c, ?d, ?e, ?f, ?g⟩; (case a => k_is); (case b => k_is); (case c => k_is); (case d => k_is); (case e => k_is); (case f => k_is); (case g => k_is))
    (case n_Place_decrees => k_is)
    (case c_Reader => refine' ⟨?a, ?b, ?c, ?d, ?e, ?f, ?g⟩; (case a => k_is); (case b => k_is); (case c => k_is); (case d => k_is); (case e => k_is); (case f => k_is); (case g => k_is))
    (case n_Reader_numbers => k_is)
    (case n_Reader_at => k_is)
    (case c_Kept => refine' ⟨?a, ?b, ?c, ?d, ?e, ?f, ?g⟩; (case a => k_is); (case b => k_is); (case c => k_is); (case d => k_is); (case e => k_is); (case f => k_is); (case g => k_is))
    (case n_Kept_place => k_is)
    (case n_Kept_shown => k_is)
    (case c_Atlas => refine' ⟨?a, ?b, ?c, ?d, ?e, ?f, ?g⟩; (case a => k_is); (case b => k_is); (case c => k_is); (case d => k_is); (case e => k_is); (case f => k_is); (case g => k_is))
    (case n_Atlas_places => k_is)
    (case n_Atlas_kept => k_is)
    (case d_is_moment => refine' Pc.FactD.of ?a ?l ?c ?k; (case a => k_is); (case l => k_is); (case c => k_is); (case k => k_is))
    (case d_weekday_of => refine' Pc.FactD.of ?a ?l ?c ?k; (case a => k_is); (case l => k_is); (case c => k_is); (case k => k_is))
    (case d_year_of => refine' Pc.FactD.of ?a ?l ?c ?k; (case a => k_is); (case l => k_is); (case c => k_is); (case k => k_is))
    (case d_month_length => refine' Pc.FactD.of ?a ?l ?c ?k; (case a => k_is); (case l => k_is); (case c => k_is); (case k => k_is))
    (case d_first_day_of_year => refine' Pc.FactD.of ?a ?l ?c ?k; (case a => k_is); (case l => k_is); (case c => k_is); (case k => k_is))
    (case d_first_day_of_month => refine' Pc.FactD.of ?a ?l ?c ?k; (case a => k_is); (case l => k_is); (case c => k_is); (case k => k_is))
    (case d_date_of => refine' Pc.FactD.of ?a ?l ?c ?k; (case a => k_is); (case l => k_is); (case c => k_is); (case k => k_is))
    (case d_Turn_init => refine' Pc.FactI.of ?a ?i ?l ?c ?k; (case a => k_is); (case i => k_is); (case l => k_is); (case c => k_is); (case k => k_is))
    (case d_Summer_init => refine' Pc.FactI.of ?a ?i ?l ?c ?k; (case a => k_is); (case i => k_is); (case l => k_is); (case c => k_is); (case k => k_is))
    (case d_Decree_init => refine' Pc.FactI.of ?a ?i ?l ?c ?k; (case a => k_is); (case i => k_is); (case l => k_is); (case c => k_is); (case k => k_is))
    (case d_is_offset => refine' Pc.FactD.of ?a ?l ?c ?k; (case a => k_is); (case l => k_is); (case c => k_is); (case k => k_is))
    (case d_is_more => refine' Pc.FactD.of ?a ?l ?c ?k; (case a => k_is); (case l => k_is); (case c => k_is); (case k => k_is))
    (case d_is_turn => refine' Pc.FactD.of ?a ?l ?c ?k; (case a => k_is); (case l => k_is); (case c => k_is); (case k => k_is))
    (case d_day_of_turn => refine' Pc.FactD.of ?a ?l ?c ?k; (case a => k_is); (case l => k_is); (case c => k_is); (case k => k_is))
    (case d_moment_of_turn => refine' Pc.FactD.of ?a ?l ?c ?k; (case a => k_is); (case l => k_is); (case c => k_is); (case k => k_is))
    (case d_is_summer => refine' Pc.FactD.of ?a ?l ?c ?k; (case a => k_is); (case l => k_is); (case c => k_is); (case k => k_is))
    (case d_next_turn => refine' Pc.FactD.of ?a ?l ?c ?k; (case a => k_is); (case l => k_is); (case c => k_is); (case k => k_is))
    (case d_ahead_by => refine' Pc.FactD.of ?a ?l ?c ?k; (case a => k_is); (case l => k_is); (case c => k_is); (case k => k_is))
    (case d_possible_aheads => refine' Pc.FactD.of ?a ?l ?c ?k; (case a => k_is); (case l => k_is); (case c => k_is); (case k => k_is))
    (case d_Place_init => refine' Pc.FactI.of ?a ?i ?l ?c ?k; (case a => k_is); (case i => k_is); (case l => k_is); (case c => k_is); (case k => k_is))
    (case d_has_decree_from => refine' Pc.FactD.of ?a ?l ?c ?k; (case a => k_is); (case l => k_is); (case c => k_is); (case k => k_is))
    (case d_take_decree => refine' Pc.FactD.of ?a ?l ?c ?k; (case a => k_is); (case l => k_is); (case c => k_is); (case k => k_is))
    (case d_put_decree => refine' Pc.FactL.of ?a ?l ?c ?k; (case a => k_is); (case l => k_is); (case c => k_is); (case k => k_is))
    (case e_put_decree => rfl)
    (case t_put_decree => refine' Pc.tab_is (st := Pc.s_put_decree) ?a ?l ?e ?m ?v; (case a => k_is); (case l => k_is); (case e => rfl); (case m => k_is); (case v => rfl))
    (case d_decree_in_force => refine' Pc.FactD.of ?a ?l ?c ?k; (case a => k_is); (case l => k_is); (case c => k_is); (case k => k_is))
    (case d_ahead_at => refine' Pc.FactD.of ?a ?l ?c ?k; (case a => k_is); (case l => k_is); (case c => k_is); (case k => k_is))
    (case d_shown_at => refine' Pc.FactD.of ?a ?l ?c ?k; (case a => k_is); (case l => k_is); (case c => k_is); (case k => k_is))
    (case d_moments_showing => refine' Pc.FactD.of ?a ?l ?c ?k; (case a => k_is); (case l => k_is); (case c => k_is); (case k => k_is))
    (case d_changes_at => refine' Pc.FactD.of ?a ?l ?c ?k; (case a => k_is); (case l => k_is); (case c => k_is); (case k => k_is))
    (case d_next_change => refine' Pc.FactD.of ?a ?l ?c ?k; (case a => k_is); (case l => k_is); (case c => k_is); (case k => k_is))
    (case d_first_showing_more => refine' Pc.FactD.of ?a ?l ?c ?k; (case a => k_is); (case l => k_is); (case c => k_is); (case k => k_is))
    (case d_moment_meant => refine' Pc.FactD.of ?a ?l ?c ?k; (case a => k_is); (case l => k_is); (case c => k_is); (case k => k_is))
    (case d_Reader_init => refine' Pc.FactI.of ?a ?i ?l ?c ?k; (case a => k_is); (case i => k_is); (case l => k_is); (case c => k_is); (case k => k_is))
    (case d_Reader_is_done => refine' Pc.FactM.of ?a ?i ?l ?c ?k; (case a => k_is); (case i => k_is); (case l => k_is); (case c => k_is); (case k => k_is))
    (case d_Reader_take_number => refine' Pc.FactM.of ?a ?i ?l ?c ?k; (case a => k_is); (case i => k_is); (case l => k_is); (case c => k_is); (case k => k_is))
    (case d_Reader_take_row => refine' Pc.FactM.of ?a ?i ?l ?c ?k; (case a => k_is); (case i => k_is); (case l => k_is); (case c => k_is); (case k => k_is))
    (case d_read_given => refine' Pc.FactD.of ?a ?l ?c ?k; (case a => k_is); (case l => k_is); (case c => k_is); (case k => k_is))
    (case d_Kept_init => refine' Pc.FactI.of ?a ?i ?l ?c ?k; (case a => k_is); (case i => k_is); (case l => k_is); (case c => k_is); (case k => k_is))
    (case d_Atlas_init => refine' Pc.FactI.of ?a ?i ?l ?c ?k; (case a => k_is); (case i => k_is); (case l => k_is); (case c => k_is); (case k => k_is))
    (case d_has_place => refine' Pc.FactD.of ?a ?l ?c ?k; (case a => k_is); (case l => k_is); (case c => k_is); (case k => k_is))
    (case d_has_kept => refine' Pc.FactD.of ?a ?l ?c ?k; (case a => k_is); (case l => k_is); (case c => k_is); (case k => k_is))
    (case d_add_place => refine' Pc.FactD.of ?a ?l ?c ?k; (case a => k_is); (case l => k_is); (case c => k_is); (case k => k_is))
    (case d_lay_down => refine' Pc.FactD.of ?a ?l ?c ?k; (case a => k_is); (case l => k_is); (case c => k_is); (case k => k_is))
    (case d_add_decree => refine' Pc.FactD.of ?a ?l ?c ?k; (case a => k_is); (case l => k_is); (case c => k_is); (case k => k_is))
    (case d_makes_summer => refine' Pc.FactD.of ?a ?l ?c ?k; (case a => k_is); (case l => k_is); (case c => k_is); (case k => k_is))
    (case d_add_summer => refine' Pc.FactD.of ?a ?l ?c ?k; (case a => k_is); (case l => k_is); (case c => k_is); (case k => k_is))
    (case d_drop_decree => refine' Pc.FactD.of ?a ?l ?c ?k; (case a => k_is); (case l => k_is); (case c => k_is); (case k => k_is))
    (case d_tell_offset => refine' Pc.FactD.of ?a ?l ?c ?k; (case a => k_is); (case l => k_is); (case c => k_is); (case k => k_is))
    (case d_date_and_time => refine' Pc.FactD.of ?a ?l ?c ?k; (case a => k_is); (case l => k_is); (case c => k_is); (case k => k_is))
    (case d_shown_with_date => refine' Pc.FactD.of ?a ?l ?c ?k; (case a => k_is); (case l => k_is); (case c => k_is); (case k => k_is))
    (case d_tell_shown => refine' Pc.FactD.of ?a ?l ?c ?k; (case a => k_is); (case l => k_is); (case c => k_is); (case k => k_is))
    (case d_tell_moments => refine' Pc.FactD.of ?a ?l ?c ?k; (case a => k_is); (case l => k_is); (case c => k_is); (case k => k_is))
    (case d_meant_by => refine' Pc.FactD.of ?a ?l ?c ?k; (case a => k_is); (case l => k_is); (case c => k_is); (case k => k_is))
    (case d_tell_meant => refine' Pc.FactD.of ?a ?l ?c ?k; (case a => k_is); (case l => k_is); (case c => k_is); (case k => k_is))
    (case d_tell_change => refine' Pc.FactD.of ?a ?l ?c ?k; (case a => k_is); (case l => k_is); (case c => k_is); (case k => k_is))
    (case d_keep_shown => refine' Pc.FactD.of ?a ?l ?c ?k; (case a => k_is); (case l => k_is); (case c => k_is); (case k => k_is))
    (case d_tell_when => refine' Pc.FactD.of ?a ?l ?c ?k; (case a => k_is); (case l => k_is); (case c => k_is); (case k => k_is))
    (case d_tell_there => refine' Pc.FactD.of ?a ?l ?c ?k; (case a => k_is); (case l => k_is); (case c => k_is); (case k => k_is))
    (case d_tell_ahead => refine' Pc.FactD.of ?a ?l ?c ?k; (case a => k_is); (case l => k_is); (case c => k_is); (case k => k_is))
    (case d_answer_call => refine' Pc.FactD.of ?a ?l ?c ?k; (case a => k_is); (case l => k_is); (case c => k_is); (case k => k_is))
    (case d_answers => refine' Pc.FactD.of ?a ?l ?c ?k; (case a => k_is); (case l => k_is); (case c => k_is); (case k => k_is))
    (case g_MINUTES_OF_DAY => refine' Pc.FactG.of ?a; (case a => k_is))
    (case g_MOMENT_COUNT => refine' Pc.FactG.of ?a; (case a => k_is))
    (case g_FIRST_YEAR => refine' Pc.FactG.of ?a; (case a => k_is))
    (case g_DAYS_OF_FOUR_YEARS => refine' Pc.FactG.of ?a; (case a => k_is))
    (case g_DAYS_OF_LEAP_YEAR => refine' Pc.FactG.of ?a; (case a => k_is))
    (case g_DAYS_OF_YEAR => refine' Pc.FactG.of ?a; (case a => k_is))
    (case g_MOST_OFFSET => refine' Pc.FactG.of ?a; (case a => k_is))
    (case g_MOST_MORE => refine' Pc.FactG.of ?a; (case a => k_is))
    (case g_MOST_RANK => refine' Pc.FactG.of ?a; (case a => k_is))
    (case g_TURN_SIZE => refine' Pc.FactG.of ?a; (case a => k_is))
    (case g_FURTHEST_BACK => refine' Pc.FactG.of ?a; (case a => k_is))
    (case g_PLACE => refine' Pc.FactG.of ?a; (case a => k_is))
    (case g_DECREE => refine' Pc.FactG.of ?a; (case a => k_is))
    (case g_SUMMER => refine' Pc.FactG.of ?a; (case a => k_is))
    (case g_DROP => refine' Pc.FactG.of ?a; (case a => k_is))
    (case g_OFFSET => refine' Pc.FactG.of ?a; (case a => k_is))
    (case g_SHOWS => refine' Pc.FactG.of ?a; (case a => k_is))
    (case g_MOMENTS => refine' Pc.FactG.of ?a; (case a => k_is))
    (case g_MEANT => refine' Pc.FactG.of ?a; (case a => k_is))
    (case g_CHANGE => refine' Pc.FactG.of ?a; (case a => k_is))
    (case g_KEEP => refine' Pc.FactG.of ?a; (case a => k_is))
    (case g_WHEN => refine' Pc.FactG.of ?a; (case a => k_is))
    (case g_THERE => refine' Pc.FactG.of ?a; (case a => k_is))
    (case g_OUT_OF_BOUNDS => refine' Pc.FactG.of ?a; (case a => k_is))
    (case g_NONE_SUCH => refine' Pc.FactG.of ?a; (case a => k_is))
    (case g_NO_SUCH_DECREE => refine' Pc.FactG.of ?a; (case a => k_is))
    (case g_NO_ROOM => refine' Pc.FactG.of ?a; (case a => k_is))
    (case g_NO_MOMENT => refine' Pc.FactG.of ?a; (case a => k_is))
    (case g_MOST_PLACES => refine' Pc.FactG.of ?a; (case a => k_is))
    (case g_MOST_DECREES => refine' Pc.FactG.of ?a; (case a => k_is))
    (case g_MOST_KEPT => refine' Pc.FactG.of ?a; (case a => k_is))
    (case g_OFFSET_ANSWERED_FOR_NONE => refine' Pc.FactG.of ?a; (case a => k_is))
    (case no_Tb => rfl); (case rec_put => rfl); (case n_len => k_is); (case n_range => k_is); (case n_any => k_is); (case n_set => k_is); (case n_sorted => k_is)
    (case n_min => k_is); (case n_max => k_is); (case a_SH => k_is)
    (case l_SH => refine' Pc.tup_of ?l ?c ?z ?v; (case l => k_is); (case c => rfl); (case z => decide); (case v => exact (.cons rfl (.cons rfl (.cons rfl (.cons rfl (.cons rfl (.cons rfl (.cons rfl (.cons rfl (.cons rfl (.cons rfl (.cons rfl (.cons rfl (.cons rfl .nil)))))))))))))))
    (case l_S0 => refine' Pc.tup_of ?l ?c ?z ?v; (case l => k_is); (case c => rfl); (case z => decide); (case v => exact .cons ⟨_, rfl⟩ (.cons ⟨_, rfl⟩ .nil)))
    (case l_S1 => refine' Pc.tup_of ?l ?c ?z ?v; (case l => k_is); (case c => rfl); (case z => decide); (case v => exact .cons ⟨_, rfl⟩ (.cons ⟨_, rfl⟩ .nil)))
    (case l_S2 => refine' Pc.tup_of ?l ?c ?z ?v; (case l => k_is); (case c => rfl); (case z => decide); (case v => exact .cons ⟨_, rfl⟩ (.cons ⟨_, rfl⟩ .nil)))
    (case l_S3 => refine' Pc.tup_of ?l ?c ?z ?v; (case l => k_is); (case c => rfl); (case z => decide); (case v => exact .cons ⟨_, rfl⟩ (.cons ⟨_, rfl⟩ .nil)))
    (case l_S4 => refine' Pc.tup_of ?l ?c ?z ?v; (case l => k_is); (case c => rfl); (case z => decide); (case v => exact .cons ⟨_, rfl⟩ (.cons ⟨_, rfl⟩ .nil)))
    (case l_S5 => refine' Pc.tup_of ?l ?c ?z ?v; (case l => k_is); (case c => rfl); (case z => decide); (case v => exact .cons ⟨_, rfl⟩ (.cons ⟨_, rfl⟩ .nil)))
    (case l_S6 => refine' Pc.tup_of ?l ?c ?z ?v; (case l => k_is); (case c => rfl); (case z => decide); (case v => exact .cons ⟨_, rfl⟩ (.cons ⟨_, rfl⟩ .nil)))
    (case l_S7 => refine' Pc.tup_of ?l ?c ?z ?v; (case l => k_is); (case c => rfl); (case z => decide); (case v => exact .cons ⟨_, rfl⟩ (.cons ⟨_, rfl⟩ .nil)))
    (case l_S8 => refine' Pc.tup_of ?l ?c ?z ?v; (case l => k_is); (case c => rfl); (case z => decide); (case v => exact .cons ⟨_, rfl⟩ (.cons ⟨_, rfl⟩ .nil)))
    (case l_S9 => refine' Pc.tup_of ?l ?c ?z ?v; (case l => k_is); (case c => rfl); (case z => decide); (case v => exact .cons ⟨_, rfl⟩ (.cons ⟨_, rfl⟩ .nil)))
    (case l_S10 => refine' Pc.tup_of ?l ?c ?z ?v; (case l => k_is); (case c => rfl); (case z => decide); (case v => exact .cons ⟨_, rfl⟩ (.cons ⟨_, rfl⟩ .nil)))
    (case l_S11 => refine' Pc.tup_of ?l ?c ?z ?v; (case l => k_is); (case c => rfl); (case z => decide); (case v => exact .cons ⟨_, rfl⟩ (.cons ⟨_, rfl⟩ .nil)))
    (case l_S12 => refine' Pc.tup_of ?l ?c ?z ?v; (case l => k_is); (case c => rfl); (case z => decide); (case v => exact .cons ⟨_, rfl⟩ (.cons ⟨_, rfl⟩ .nil)))
    (case a_ML => k_is); (case l_ML => refine' Pc.tup_of ?l ?c ?z ?v; (case l => k_is); (case c => rfl); (case z => decide); (case v => exact .cons ⟨_, rfl⟩ (.cons ⟨_, rfl⟩ (.cons ⟨_, rfl⟩ (.cons ⟨_, rfl⟩ (.cons ⟨_, rfl⟩ (.cons ⟨_, rfl⟩ (.cons ⟨_, rfl⟩ (.cons ⟨_, rfl⟩ (.cons ⟨_, rfl⟩ (.cons ⟨_, rfl⟩ (.cons ⟨_, rfl⟩ (.cons ⟨_, rfl⟩ .nil)))))))))))))
    obtain ⟨fd, cs, z1, z2, z3⟩ := z
    refine ⟨fd, cs, z1, z2, z3, fun H a ns b hwi hask henc hT hS => ?_⟩
    exact Pc.answers_asked_of henc hask hT hS
