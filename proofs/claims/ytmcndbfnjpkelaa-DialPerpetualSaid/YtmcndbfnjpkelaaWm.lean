/- Where a mechanism that takes every fourth year for a leap year goes wrong, plainly. -/
import Derived.Test.YtmcndbfnjpkelaaDm
namespace Go.Proofs.Ytmcndbfnjpkelaa
set_option linter.unusedVariables false
set_option linter.unusedSimpArgs false

def badY (c : Int) : Prop := c % 4 = 0 ∧ leapB c = false
/-- The number of 28 February. -/
def feb (c : Int) : Int := nyD c + 58
theorem feb_is (c : Int) : numD c 2 28 = feb c := by
  have h : befD 2 (leapB c) = 31 := by cases leapB c <;> decide
  unfold numD feb
  omega
def WrongP (n0 N R : Int) : Prop :=
  (R = -1 ∧ ∀ c, 1 ≤ c → c ≤ 9999 → badY c → ¬ (n0 ≤ feb c ∧ feb c < n0 + N)) ∨
  (∃ c, (1 ≤ c ∧ c ≤ 9999) ∧ badY c ∧ R = feb c + 1 - n0 ∧ n0 ≤ feb c ∧ R ≤ N ∧ ∀ c', 1 ≤ c' → c' < c → badY c' → feb c' < n0)
theorem feb_lt {c c' : Int} (h : c < c') : feb c < feb c' := by
  have := ny_lt h
  have := bI_bd (leapB c)
  unfold feb
  omega
theorem wrong_uniq {n0 N R R' : Int} (h : WrongP n0 N R) (h' : WrongP n0 N R') : R = R' := by
  rcases h with ⟨rfl, h⟩ | ⟨c, hc, hb, rfl, h1, h2, h3⟩
  · rcases h' with ⟨rfl, _⟩ | ⟨c', hc', hb', rfl, h1', h2', h3'⟩
    · rfl
    · exact absurd ⟨h1', by omega⟩ (h c' hc'.1 hc'.2 hb')
  · rcases h' with ⟨rfl, h'⟩ | ⟨c', hc', hb', rfl, h1', h2', h3'⟩
    · exact absurd ⟨h1, by omega⟩ (h' c hc.1 hc.2 hb)
    · rcases Int.lt_trichotomy c c' with hl | hl | hl
      · have := h3' c hc.1 hl hb; omega
      · rw [hl]
      · have := h3 c' hc'.1 hl hb'; omega
theorem least_of (P : Int → Prop) (h : ∃ c, 1 ≤ c ∧ P c) : ∃ c, 1 ≤ c ∧ P c ∧ ∀ c', 1 ≤ c' → c' < c → ¬ P c' := by
  have key : ∀ n : Nat, ∀ c : Int, c.toNat = n → 1 ≤ c → P c → ∃ c, 1 ≤ c ∧ P c ∧ ∀ c', 1 ≤ c' → c' < c → ¬ P c' := by
    intro n
    induction n using Nat.strongRecOn with
    | ind n ih =>
      intro c hn h1 hP
      by_cases hx : ∃ c', 1 ≤ c' ∧ c' < c ∧ P c'
      · obtain ⟨c', h1', hl, hP'⟩ := hx
        exact ih c'.toNat (by omega) c' rfl h1' hP'
      · exact ⟨c, h1, hP, fun c' h1' hl hP' => hx ⟨c', h1', hl, hP'⟩⟩
  obtain ⟨c, h1, hP⟩ := h
  exact key c.toNat c rfl h1 hP
theorem wrong_ex (n0 N : Int) : ∃ R, WrongP n0 N R := by
  by_cases h : ∃ c, 1 ≤ c ∧ (c ≤ 9999 ∧ badY c ∧ n0 ≤ feb c)
  · obtain ⟨c, h1, ⟨h2, hb, h3⟩, hl⟩ := least_of _ h
    by_cases hN : feb c + 1 - n0 ≤ N
    · refine ⟨feb c + 1 - n0, .inr ⟨c, ⟨h1, h2⟩, hb, rfl, h3, hN, fun c' h1' hlt hb' => ?_⟩⟩
      have := hl c' h1' hlt
      rcases Int.lt_or_le (feb c') n0 with hh | hh
      · exact hh
      · exact absurd ⟨by omega, hb', hh⟩ this
    · refine ⟨-1, .inl ⟨rfl, fun c' h1' h2' hb' hw => ?_⟩⟩
      rcases Int.lt_or_le c' c with hh | hh
      · exact hl c' h1' hh ⟨h2', hb', hw.1⟩
      · have : feb c ≤ feb c' := by
          rcases Int.lt_or_eq_of_le hh with hq | hq
          · exact Int.le_of_lt (feb_lt hq)
          · rw [hq]; exact Int.le_refl _
        omega
  · exact ⟨-1, .inl ⟨rfl, fun c h1 h2 hb hw => h ⟨c, h1, h2, hb, hw.1⟩⟩⟩

theorem mon_differ {y m : Int} (h : monD m (decide (y % 4 = 0)) ≠ monD m (leapB y)) : m = 2 ∧ badY y := by
  have hm : m = 2 := by
    rcases Classical.em (m = 2) with hm | hm
    · exact hm
    · exfalso
      apply h
      unfold monD
      rw [if_neg hm, if_neg hm]
  subst hm
  refine ⟨rfl, ?_⟩
  unfold badY
  cases hl : leapB y
  · by_cases h4 : y % 4 = 0
    · exact ⟨h4, rfl⟩
    · rw [hl, decide_eq_false h4] at h
      exact absurd rfl h
  · have h4 : y % 4 = 0 := by
      unfold leapB at hl
      have := of_decide_eq_true hl
      exact this.1
    rw [hl, decide_eq_true h4] at h
    exact absurd rfl h
theorem mon_bad {y : Int} (h : badY y) : monD 2 (decide (y % 4 = 0)) = 29 ∧ monD 2 (leapB y) = 28 := by
  rw [h.2, decide_eq_true h.1]
  decide

/-- A 28 February in a month of a date is of that month. -/
theorem feb_in {y m d c : Int} (h : VD y m d) (hc : 1 ≤ c ∧ c ≤ 9999) (h1 : numD y m d ≤ feb c) (h2 : feb c < numD y m d + (monD m (leapB y) - d + 1)) : c = y ∧ m = 2 := by
  have hv : VD c 2 28 := ⟨hc, by omega, by omega, by have := mon_bd 2 (leapB c); omega⟩
  have hv2 : VD y m (d + (feb c - numD y m d)) := ⟨h.1, h.2.1, by have := h.2.2.1; omega, by omega⟩
  have := num_inj hv hv2 (by rw [feb_is]; unfold numD; omega)
  exact ⟨this.1, this.2.1.symm⟩

/-- What is known between two months: no bad 28 February has passed. -/
def PastP (n0 y m d : Int) : Prop := ∀ c, 1 ≤ c → c ≤ 9999 → badY c → feb c < n0 ∨ numD y m d ≤ feb c
/-- The first of the next month. -/
def naY (y m : Int) : Int := if m < 12 then y else y + 1
theorem num_next {y m d : Int} (h : VD y m d) : numD (naY y m) (nmM m) 1 = numD y m d + (monD m (leapB y) - d + 1) := by
  unfold naY nmM
  by_cases hm : m < 12
  · rw [if_pos hm, if_pos hm]
    have := bef_step (leapB y) h.2.1.1 h.2.1.2
    unfold numD
    omega
  · rw [if_neg hm, if_neg hm]
    have hm' : m = 12 := by have := h.2.1.2; omega
    subst hm'
    have := bef_last (leapB y)
    have := ny_step y
    have := bef_one (leapB (y + 1))
    unfold numD
    omega
theorem next_leap (y m : Int) : nmL m (y % 4) = naY y m % 4 := by
  unfold nmL naY
  split <;> omega
theorem next_valid {y m d : Int} (h : VD y m d) (hl : numD (naY y m) (nmM m) 1 ≤ 3652058) : VD (naY y m) (nmM m) 1 := by
  have hn := nm_ok h.2.1 (l := 0) (by omega)
  refine ⟨?_, hn.1, by omega, by have := mon_bd (nmM m) (leapB (naY y m)); omega⟩
  unfold naY nmM at *
  have := h.1
  by_cases hm : m < 12
  · rw [if_pos hm]; exact this
  · rw [if_neg hm, if_neg hm] at hl
    rw [if_neg hm]
    refine ⟨by omega, ?_⟩
    rcases Int.lt_or_le 9999 (y + 1) with hh | hh
    · have hy : y + 1 = 10000 := by omega
      rw [hy] at hl
      have : numD 10000 1 1 = 3652059 := by decide
      omega
    · exact hh
theorem past_next {n0 y m d : Int} (h : VD y m d) (hP : PastP n0 y m d) (he : monD m (decide (y % 4 = 0)) = monD m (leapB y)) : PastP n0 (naY y m) (nmM m) 1 := by
  intro c h1 h2 hb
  rcases hP c h1 h2 hb with hh | hh
  · exact .inl hh
  · right
    rw [num_next h]
    rcases Int.lt_or_le (feb c) (numD y m d + (monD m (leapB y) - d + 1)) with hq | hq
    · obtain ⟨rfl, rfl⟩ := feb_in h ⟨h1, h2⟩ hh hq
      have := mon_bad hb
      omega
    · exact hq
/-- The months agree, and the nights are over. -/
theorem wrong_none {n0 N y m d : Int} (h : VD y m d) (hP : PastP n0 y m d) (he : monD m (decide (y % 4 = 0)) = monD m (leapB y)) (hN : N < numD y m d - n0 + (monD m (leapB y) - d + 1)) : WrongP n0 N (-1) := by
  refine .inl ⟨rfl, fun c h1 h2 hb hw => ?_⟩
  rcases past_next h hP he c h1 h2 hb with hh | hh
  · omega
  · rw [num_next h] at hh
    omega
theorem bad_num {y d : Int} (hb : badY y) : numD y 2 d = feb y - 28 + d := by
  have h : befD 2 (leapB y) = 31 := by rw [hb.2]; decide
  unfold numD feb
  omega
theorem wrong_bad {n0 N y d : Int} (h : VD y 2 d) (hn : n0 ≤ numD y 2 d) (hP : PastP n0 y 2 d) (hb : badY y) : if N < numD y 2 d - n0 + (28 - d + 1) then WrongP n0 N (-1) else WrongP n0 N (numD y 2 d - n0 + (28 - d + 1)) := by
  have hd := h.2.2.2
  rw [hb.2] at hd
  have hd28 : monD 2 false = 28 := by decide
  have e := bad_num (d := d) hb
  have hlt : ∀ c, c < y → feb c < numD y 2 d := by
    intro c hc
    have := ny_lt hc
    have := bI_bd (leapB c)
    have := h.2.2.1
    rw [e]
    unfold feb
    omega
  split
  · rename_i hN
    refine .inl ⟨rfl, fun c h1 h2 hb' hw => ?_⟩
    rcases hP c h1 h2 hb' with hh | hh
    · omega
    · rcases Int.lt_trichotomy c y with hl | hl | hl
      · have := hlt c hl; omega
      · subst hl; omega
      · have := feb_lt hl; omega
  · rename_i hN
    refine .inr ⟨y, h.1, hb, by omega, by omega, by omega, fun c' h1' hl hb' => ?_⟩
    have := h.1
    rcases hP c' h1' (by omega) hb' with hh | hh
    · exact hh
    · have := hlt c' hl; omega
theorem past_start {y m d : Int} : PastP (numD y m d) y m d := fun c _ _ _ => by omega
end Go.Proofs.Ytmcndbfnjpkelaa
