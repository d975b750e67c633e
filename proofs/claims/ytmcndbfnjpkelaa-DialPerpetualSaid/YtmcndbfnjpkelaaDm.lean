/- Dates and faces, plainly: lengths of months, numbers of dates, places in four years of the mechanism. -/
import Derived.WalkKit
namespace Go.Proofs.Ytmcndbfnjpkelaa
set_option linter.unusedVariables false
set_option linter.unusedSimpArgs false

def leapB (y : Int) : Bool := decide (y % 4 = 0 ∧ (y % 100 ≠ 0 ∨ y % 400 = 0))
/-- Days of a month. -/
def monD (m : Int) (b : Bool) : Int := if m = 2 then (if b = true then 29 else 28) else if m = 4 ∨ m = 6 ∨ m = 9 ∨ m = 11 then 30 else 31
/-- Days before a month. -/
def befD (m : Int) (b : Bool) : Int :=
  if m = 1 then 0 else if m = 2 then 31 else (if b = true then 1 else 0) +
    (if m = 3 then 59 else if m = 4 then 90 else if m = 5 then 120 else if m = 6 then 151 else if m = 7 then 181 else if m = 8 then 212
      else if m = 9 then 243 else if m = 10 then 273 else if m = 11 then 304 else if m = 12 then 334 else 365)
def nyD (y : Int) : Int := (y - 1) * 365 + (y - 1) / 4 - (y - 1) / 100 + (y - 1) / 400
def numD (y m d : Int) : Int := nyD y + befD m (leapB y) + d - 1
def VD (y m d : Int) : Prop := (1 ≤ y ∧ y ≤ 9999) ∧ (1 ≤ m ∧ m ≤ 12) ∧ 1 ≤ d ∧ d ≤ monD m (leapB y)
instance (y m d : Int) : Decidable (VD y m d) := by unfold VD; infer_instance
def bI (b : Bool) : Int := if b = true then 1 else 0

theorem twelve {m : Int} (h1 : 1 ≤ m) (h2 : m ≤ 12) : m = 1 ∨ m = 2 ∨ m = 3 ∨ m = 4 ∨ m = 5 ∨ m = 6 ∨ m = 7 ∨ m = 8 ∨ m = 9 ∨ m = 10 ∨ m = 11 ∨ m = 12 := by omega

theorem mon_bd (m : Int) (b : Bool) : 28 ≤ monD m b ∧ monD m b ≤ 31 := by
  unfold monD
  cases b <;> simp <;> split <;> (try split) <;> omega

theorem bef_step {m : Int} (b : Bool) (h1 : 1 ≤ m) (h2 : m ≤ 12) : befD (m + 1) b = befD m b + monD m b := by
  rcases twelve h1 h2 with rfl | rfl | rfl | rfl | rfl | rfl | rfl | rfl | rfl | rfl | rfl | rfl <;> cases b <;> decide

theorem bef_bd {m : Int} (b : Bool) (h1 : 1 ≤ m) (h2 : m ≤ 12) : 0 ≤ befD m b ∧ befD m b + monD m b ≤ 365 + bI b := by
  rcases twelve h1 h2 with rfl | rfl | rfl | rfl | rfl | rfl | rfl | rfl | rfl | rfl | rfl | rfl <;> cases b <;> decide

theorem bef_last (b : Bool) : befD 12 b + monD 12 b = 365 + bI b := by cases b <;> decide
theorem bef_one (b : Bool) : befD 1 b = 0 := by cases b <;> decide
theorem bI_bd (b : Bool) : 0 ≤ bI b ∧ bI b ≤ 1 := by cases b <;> decide

theorem bef_lt {m k : Int} (b : Bool) (h1 : 1 ≤ m) (h : m < k) (h2 : k ≤ 12) : befD m b + monD m b ≤ befD k b := by
  have hk : ∀ n : Nat, m + 1 + n ≤ 12 → befD m b + monD m b ≤ befD (m + 1 + n) b := by
    intro n
    induction n with
    | zero => intro hn; rw [show m + 1 + ((0 : Nat) : Int) = m + 1 by omega, bef_step b h1 (by omega)]; exact Int.le_refl _
    | succ n ih =>
      intro hn
      have h3 := bef_step b (m := m + 1 + n) (by omega) (by omega)
      have h4 := mon_bd (m + 1 + n) b
      have h5 := ih (by omega)
      rw [show m + 1 + ((n + 1 : Nat) : Int) = m + 1 + n + 1 by omega, h3]
      omega
  have := hk (k - m - 1).toNat (by omega)
  rwa [show m + 1 + ((k - m - 1).toNat : Int) = k by omega] at this

theorem ny_step (y : Int) : nyD (y + 1) = nyD y + 365 + bI (leapB y) := by
  unfold nyD leapB bI
  by_cases h : y % 4 = 0 ∧ (y % 100 ≠ 0 ∨ y % 400 = 0)
  · rw [decide_eq_true h, if_pos rfl]
    omega
  · rw [decide_eq_false h]
    simp only [Bool.false_eq_true, if_false]
    omega
theorem ny_one : nyD 1 = 0 := by decide
theorem ny_lt {y z : Int} (h : y < z) : nyD y + 365 + bI (leapB y) ≤ nyD z := by
  have hk : ∀ n : Nat, nyD y + 365 + bI (leapB y) ≤ nyD (y + 1 + n) := by
    intro n
    induction n with
    | zero => rw [show y + 1 + ((0 : Nat) : Int) = y + 1 by omega, ny_step y]; exact Int.le_refl _
    | succ n ih =>
      have h3 := ny_step (y + 1 + n)
      have h4 := bI_bd (leapB (y + 1 + n))
      rw [show y + 1 + ((n + 1 : Nat) : Int) = y + 1 + n + 1 by omega, h3]
      omega
  have := hk (z - y - 1).toNat
  rwa [show y + 1 + ((z - y - 1).toNat : Int) = z by omega] at this
theorem ny_bd {y : Int} (h1 : 1 ≤ y) (h2 : y ≤ 10001) : 0 ≤ nyD y ∧ nyD y ≤ 3652425 ∧ (y ≤ 10000 → nyD y ≤ 3652059) := by
  have e1 : nyD 10001 = 3652425 := by decide
  have e2 : nyD 10000 = 3652059 := by decide
  have e0 := ny_one
  have b := bI_bd (leapB y)
  refine ⟨?_, ?_, fun h => ?_⟩
  · by_cases h : y = 1
    · subst h; omega
    · have := ny_lt (y := 1) (z := y) (by omega); have := bI_bd (leapB 1); omega
  · by_cases h : y = 10001
    · subst h; omega
    · have := ny_lt (y := y) (z := 10001) (by omega); omega
  · by_cases h : y = 10000
    · subst h; omega
    · have := ny_lt (y := y) (z := 10000) (by omega); omega

theorem num_lo {y m d : Int} (h : VD y m d) : nyD y ≤ numD y m d ∧ numD y m d < nyD (y + 1) := by
  obtain ⟨⟨h1, h2⟩, ⟨h3, h4⟩, h5, h6⟩ := h
  have a := bef_bd (leapB y) h3 h4
  rw [ny_step y]
  unfold numD
  omega
theorem num_bd {y m d : Int} (h : VD y m d) : 0 ≤ numD y m d ∧ numD y m d ≤ 3652058 := by
  have a := num_lo h
  have b := ny_bd (y := y) h.1.1 (by have := h.1.2; omega)
  have c := ny_bd (y := y + 1) (by have := h.1.1; omega) (by have := h.1.2; omega)
  have := c.2.2 (by have := h.1.2; omega)
  omega
theorem num_inj {y m d y' m' d' : Int} (h : VD y m d) (h' : VD y' m' d') (e : numD y m d = numD y' m' d') : y = y' ∧ m = m' ∧ d = d' := by
  have a := num_lo h
  have a' := num_lo h'
  have ey : y = y' := by
    rcases Int.lt_trichotomy y y' with hl | hl | hl
    · have := ny_lt hl; have := ny_step y; omega
    · exact hl
    · have := ny_lt hl; have := ny_step y'; omega
  subst ey
  obtain ⟨_, ⟨h3, h4⟩, h5, h6⟩ := h
  obtain ⟨_, ⟨h3', h4'⟩, h5', h6'⟩ := h'
  unfold numD at e
  have em : m = m' := by
    rcases Int.lt_trichotomy m m' with hl | hl | hl
    · have := bef_lt (leapB y) h3 hl h4'; omega
    · exact hl
    · have := bef_lt (leapB y) h3' hl h4; omega
  subst em
  exact ⟨rfl, rfl, by omega⟩

theorem month_of (b : Bool) (r : Nat) (h : (r : Int) < 365 + bI b) : ∃ m d : Int, (1 ≤ m ∧ m ≤ 12) ∧ (1 ≤ d ∧ d ≤ monD m b) ∧ (r : Int) = befD m b + d - 1 := by
  induction r with
  | zero => exact ⟨1, 1, by omega, ⟨by omega, by have := mon_bd 1 b; omega⟩, by rw [bef_one]; rfl⟩
  | succ r ih =>
    obtain ⟨m, d, ⟨h1, h2⟩, ⟨h3, h4⟩, e⟩ := ih (by omega)
    by_cases hd : d < monD m b
    · exact ⟨m, d + 1, ⟨h1, h2⟩, ⟨by omega, by omega⟩, by omega⟩
    · by_cases hm : m < 12
      · have := bef_step b h1 h2
        exact ⟨m + 1, 1, by omega, ⟨by omega, by have := mon_bd (m + 1) b; omega⟩, by omega⟩
      · have : m = 12 := by omega
        subst this
        have := bef_last b
        omega
theorem year_of (n : Nat) (h : (n : Int) ≤ 3652058) : ∃ y : Int, (1 ≤ y ∧ y ≤ 9999) ∧ nyD y ≤ n ∧ (n : Int) < nyD (y + 1) := by
  induction n with
  | zero => exact ⟨1, by omega, by decide, by decide⟩
  | succ n ih =>
    obtain ⟨y, ⟨h1, h2⟩, h3, h4⟩ := ih (by omega)
    by_cases hy : ((n + 1 : Nat) : Int) < nyD (y + 1)
    · exact ⟨y, ⟨h1, h2⟩, by omega, hy⟩
    · have h5 : y < 9999 := by
        rcases Int.lt_or_le y 9999 with hl | hl
        · exact hl
        · have : y = 9999 := by omega
          subst this
          have : nyD (9999 + 1) = 3652059 := by decide
          omega
      have h6 := ny_step (y + 1)
      have := bI_bd (leapB (y + 1))
      exact ⟨y + 1, by omega, by omega, by omega⟩
/-- Every number is that of a date. -/
theorem date_of {n : Int} (h0 : 0 ≤ n) (h : n ≤ 3652058) : ∃ y m d : Int, VD y m d ∧ numD y m d = n := by
  obtain ⟨y, ⟨h1, h2⟩, h3, h4⟩ := year_of n.toNat (by omega)
  have h5 := ny_step y
  obtain ⟨m, d, hm, hd, e⟩ := month_of (leapB y) (n - nyD y).toNat (by omega)
  exact ⟨y, m, d, ⟨⟨h1, h2⟩, hm, hd⟩, by unfold numD; omega⟩

/-! ### Faces -/
def VF (d m l : Int) : Prop := (1 ≤ m ∧ m ≤ 12) ∧ (0 ≤ l ∧ l ≤ 3) ∧ 1 ≤ d ∧ d ≤ monD m (decide (l = 0))
instance (d m l : Int) : Decidable (VF d m l) := by unfold VF; infer_instance
/-- Days before a year of the four. -/
def befL (l : Int) : Int := if l = 0 then 0 else 1 + 365 * l
def posD (d m l : Int) : Int := befL l + befD m (decide (l = 0)) + d - 1
theorem four {l : Int} (h1 : 0 ≤ l) (h2 : l ≤ 3) : l = 0 ∨ l = 1 ∨ l = 2 ∨ l = 3 := by omega
theorem pos_lo {d m l : Int} (h : VF d m l) : befL l ≤ posD d m l ∧ posD d m l < befL l + 365 + bI (decide (l = 0)) := by
  obtain ⟨⟨h1, h2⟩, _, h5, h6⟩ := h
  have a := bef_bd (decide (l = 0)) h1 h2
  unfold posD
  omega
theorem befL_step {l : Int} (h1 : 0 ≤ l) (h2 : l ≤ 3) : befL l + 365 + bI (decide (l = 0)) = 366 + 365 * l := by
  rcases four h1 h2 with rfl | rfl | rfl | rfl <;> decide
theorem befL_eq {l : Int} (h1 : 0 ≤ l) (h2 : l ≤ 3) : (l = 0 ∧ befL l = 0) ∨ (1 ≤ l ∧ befL l = 1 + 365 * l) := by
  rcases four h1 h2 with rfl | rfl | rfl | rfl <;> simp [befL]
theorem pos_bd {d m l : Int} (h : VF d m l) : 0 ≤ posD d m l ∧ posD d m l ≤ 1460 := by
  have a := pos_lo h
  have b := befL_step h.2.1.1 h.2.1.2
  have c := befL_eq h.2.1.1 h.2.1.2
  have := h.2.1
  omega
theorem pos_inj {d m l d' m' l' : Int} (h : VF d m l) (h' : VF d' m' l') (e : posD d m l = posD d' m' l') : d = d' ∧ m = m' ∧ l = l' := by
  have a := pos_lo h
  have a' := pos_lo h'
  have b := befL_step h.2.1.1 h.2.1.2
  have b' := befL_step h'.2.1.1 h'.2.1.2
  have c := befL_eq h.2.1.1 h.2.1.2
  have c' := befL_eq h'.2.1.1 h'.2.1.2
  have el : l = l' := by omega
  subst el
  clear a a' b b' c c'
  obtain ⟨⟨h3, h4⟩, _, h5, h6⟩ := h
  obtain ⟨⟨h3', h4'⟩, _, h5', h6'⟩ := h'
  unfold posD at e
  have em : m = m' := by
    rcases Int.lt_trichotomy m m' with hl | hl | hl
    · have := bef_lt (decide (l = 0)) h3 hl h4'; omega
    · exact hl
    · have := bef_lt (decide (l = 0)) h3' hl h4; omega
  subst em
  exact ⟨by omega, rfl, rfl⟩
theorem face_of {p : Int} (h0 : 0 ≤ p) (h : p ≤ 1460) : ∃ d m l : Int, VF d m l ∧ posD d m l = p := by
  have hl : ∃ l : Int, (0 ≤ l ∧ l ≤ 3) ∧ befL l ≤ p ∧ p < befL l + 365 + bI (decide (l = 0)) := by
    by_cases h1 : p < 366
    · exact ⟨0, by omega, by simp [befL]; omega, by simp [befL, bI]; omega⟩
    · by_cases h2 : p < 731
      · exact ⟨1, by omega, by simp [befL]; omega, by simp [befL, bI]; omega⟩
      · by_cases h3 : p < 1096
        · exact ⟨2, by omega, by simp [befL]; omega, by simp [befL, bI]; omega⟩
        · exact ⟨3, by omega, by simp [befL]; omega, by simp [befL, bI]; omega⟩
  obtain ⟨l, hl, h1, h2⟩ := hl
  obtain ⟨m, d, hm, hd, e⟩ := month_of (decide (l = 0)) (p - befL l).toNat (by omega)
  exact ⟨d, m, l, ⟨hm, hl, hd⟩, by unfold posD; omega⟩

/-- The next month; the next day. -/
def nmM (m : Int) : Int := if m < 12 then m + 1 else 1
def nmL (m l : Int) : Int := if m < 12 then l else (l + 1) % 4
theorem nm_ok {m l : Int} (h1 : 1 ≤ m ∧ m ≤ 12) (h2 : 0 ≤ l ∧ l ≤ 3) : (1 ≤ nmM m ∧ nmM m ≤ 12) ∧ 0 ≤ nmL m l ∧ nmL m l ≤ 3 := by
  unfold nmM nmL
  by_cases h : m < 12
  · rw [if_pos h, if_pos h]; omega
  · rw [if_neg h, if_neg h]; omega
def nxDay (d m l : Int) : Int := if d < monD m (decide (l = 0)) then d + 1 else 1
def nxMon (d m l : Int) : Int := if d < monD m (decide (l = 0)) then m else nmM m
def nxLeap (d m l : Int) : Int := if d < monD m (decide (l = 0)) then l else nmL m l
theorem nx_ok {d m l : Int} (h : VF d m l) : VF (nxDay d m l) (nxMon d m l) (nxLeap d m l) ∧ posD (nxDay d m l) (nxMon d m l) (nxLeap d m l) = (posD d m l + 1) % 1461 := by
  have hp := pos_bd h
  unfold nxDay nxMon nxLeap
  by_cases hd : d < monD m (decide (l = 0))
  · rw [if_pos hd, if_pos hd, if_pos hd]
    have hv : VF (d + 1) m l := ⟨h.1, h.2.1, by have := h.2.2.1; omega, by omega⟩
    have := pos_bd hv
    refine ⟨hv, ?_⟩
    unfold posD at *
    omega
  · rw [if_neg hd, if_neg hd, if_neg hd]
    obtain ⟨hm, hl, h5, h6⟩ := h
    have hn := nm_ok hm hl
    have hv : VF 1 (nmM m) (nmL m l) := ⟨hn.1, hn.2, by omega, by have := mon_bd (nmM m) (decide (nmL m l = 0)); omega⟩
    refine ⟨hv, ?_⟩
    have hp' := pos_bd hv
    by_cases h12 : m < 12
    · have e1 : nmM m = m + 1 := if_pos h12
      have e2 : nmL m l = l := if_pos h12
      rw [e1, e2] at hp' ⊢
      have := bef_step (decide (l = 0)) hm.1 hm.2
      unfold posD at *
      omega
    · have e : m = 12 := by omega
      subst e
      have e1 : nmM 12 = 1 := by decide
      have e2 : nmL 12 l = (l + 1) % 4 := if_neg h12
      rw [e1, e2]
      clear hp' hv e1 e2
      have hz := bef_last (decide (l = 0))
      have c := befL_eq hl.1 hl.2
      have b := befL_step hl.1 hl.2
      by_cases h3 : l = 3
      · subst h3
        have o := bef_one (decide (((3 : Int) + 1) % 4 = 0))
        have c' : befL (((3 : Int) + 1) % 4) = 0 := by decide
        unfold posD at *
        omega
      · have e3 : (l + 1) % 4 = l + 1 := by omega
        rw [e3]
        have c' := befL_eq (l := l + 1) (by omega) (by omega)
        have o := bef_one (decide (l + 1 = 0))
        unfold posD at *
        omega
end Go.Proofs.Ytmcndbfnjpkelaa
