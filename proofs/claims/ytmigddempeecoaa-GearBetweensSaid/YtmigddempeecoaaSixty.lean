/- The plain side of Exact at the ratio 60, wheels of 60 to 80, pinions of 6 to 10, at most two stages. -/
import Derived.Test.YtmigddempeecoaaPick
namespace Go.Proofs.Ytmigddempeecoaa
set_option linter.unusedVariables false
set_option linter.unusedSimpArgs false
open Go.RowKit Go.Shelf Go.Lib Go.Sort

theorem gen1 {low high : Int} {r : Bool} {s : Side} (h : s ∈ gen low high r 1) : ∃ a, low ≤ a ∧ a ≤ high ∧ s = ⟨a, 0, 0, a, a⟩ := by
  simp only [gen, List.mem_flatMap, List.mem_singleton] at h
  obtain ⟨y, rfl, h⟩ := h
  simp only [ext, extTo, List.mem_map, List.mem_range] at h
  obtain ⟨i, hi, rfl⟩ := h
  have e1 : fromOf low r 0 ⟨0, 0, 0, 1, 0⟩ = low := by simp [fromOf]
  have e2 : toOf high r 0 ⟨0, 0, 0, 1, 0⟩ = high := by simp [toOf]
  rw [e1, e2] at hi
  rw [e1]
  exact ⟨low + i, by omega, by omega, by simp [Side.with]⟩

theorem gen2 {low high : Int} {r : Bool} {s : Side} (h : s ∈ gen low high r 2) : ∃ a b, low ≤ a ∧ a ≤ high ∧ (r = true → a ≤ b ∧ b ≤ high) ∧ (r = false → low ≤ b ∧ b ≤ a) ∧ s = ⟨a, b, 0, a * b, a + b⟩ := by
  have h' : s ∈ (gen low high r 1).flatMap (ext low high r 1) := h
  obtain ⟨y, hy, h⟩ := List.mem_flatMap.1 h'
  obtain ⟨a, h1, h2, rfl⟩ := gen1 hy
  simp only [ext, extTo, List.mem_map, List.mem_range] at h
  obtain ⟨i, hi, rfl⟩ := h
  cases r
  · have e1 : fromOf low false 1 ⟨a, 0, 0, a, a⟩ = low := by simp [fromOf]
    have e2 : toOf high false 1 ⟨a, 0, 0, a, a⟩ = a := by simp [toOf, Side.tooth]
    rw [e1, e2] at hi
    rw [e1]
    exact ⟨a, low + i, h1, h2, fun h => (by cases h), fun _ => by omega, by simp [Side.with]⟩
  · have e1 : fromOf low true 1 ⟨a, 0, 0, a, a⟩ = a := by simp [fromOf, Side.tooth]
    have e2 : toOf high true 1 ⟨a, 0, 0, a, a⟩ = high := by simp [toOf]
    rw [e1, e2] at hi
    rw [e1]
    exact ⟨a, a + i, h1, h2, fun _ => by omega, fun h => (by cases h), by simp [Side.with]⟩

theorem isR_mul {tn td : Int} {t : Tr} (h : isR tn td t = true) : t.w.p * td = tn * t.p.p := by
  unfold isR quoN quoD at h
  simp only [Bool.and_eq_true, beq_iff_eq] at h
  obtain ⟨h1, h2⟩ := h
  have d1 : ((Int.gcd t.w.p t.p.p : Nat) : Int) ∣ t.w.p := Int.gcd_dvd_left ..
  have d2 : ((Int.gcd t.w.p t.p.p : Nat) : Int) ∣ t.p.p := Int.gcd_dvd_right ..
  have e1 := Int.ediv_mul_cancel d1
  have e2 := Int.ediv_mul_cancel d2
  rw [h1] at e1
  rw [h2] at e2
  generalize ((Int.gcd t.w.p t.p.p : Nat) : Int) = g at *
  rw [← e1, ← e2]
  rw [Int.mul_assoc, Int.mul_comm g td]

def w60 : Side := ⟨60, 60, 0, 3600, 120⟩
def p60 : Side := ⟨6, 10, 0, 60, 16⟩
theorem w60_mem : w60 ∈ sidesL 60 80 2 false := by
  have h : w60 ∈ gen 60 80 false 2 := List.mem_flatMap.2 ⟨⟨60, 0, 0, 60, 60⟩, List.mem_flatMap.2 ⟨⟨0, 0, 0, 1, 0⟩, by simp [gen], List.mem_map.2 ⟨0, by decide, by decide⟩⟩, List.mem_map.2 ⟨0, by decide, by decide⟩⟩
  obtain ⟨x, hx, hp, _⟩ := sidesL_rep h
  obtain ⟨a, b, h1, h2, _, h3, rfl⟩ := gen2 (sidesL_mem hx)
  obtain ⟨h4, h5⟩ := h3 rfl
  have hp' : a * b = 3600 := hp
  have m1 := Int.mul_le_mul (show 60 ≤ a from h1) (show 60 ≤ b from h4) (by omega) (by omega)
  have m2 := Int.mul_le_mul (show a ≤ a from Int.le_refl _) (show 60 ≤ b from h4) (by omega) (by omega)
  have ea : a = 60 := by omega
  subst ea
  have eb : b = 60 := by omega
  subst eb
  exact hx
theorem p60_mem : p60 ∈ sidesL 6 10 2 true := by
  have h : p60 ∈ gen 6 10 true 2 := List.mem_flatMap.2 ⟨⟨6, 0, 0, 6, 6⟩, List.mem_flatMap.2 ⟨⟨0, 0, 0, 1, 0⟩, by simp [gen], List.mem_map.2 ⟨0, by decide, by decide⟩⟩, List.mem_map.2 ⟨4, by decide, by decide⟩⟩
  obtain ⟨x, hx, hp, _⟩ := sidesL_rep h
  obtain ⟨a, b, h1, h2, h3, _, rfl⟩ := gen2 (sidesL_mem hx)
  obtain ⟨h4, h5⟩ := h3 rfl
  have hp' : a * b = 60 := hp
  rcases (show a = 6 ∨ a = 7 ∨ a = 8 ∨ a = 9 ∨ a = 10 by omega) with rfl | rfl | rfl | rfl | rfl
  · have eb : b = 10 := by omega
    subst eb
    exact hx
  all_goals omega

theorem pick_one : bestE 60 1 (trainsL 1 (sidesL 60 80 1 false) (sidesL 6 10 1 true) 60 1) = zeroTr := by
  have hn : ∀ t ∈ trainsL 1 (sidesL 60 80 1 false) (sidesL 6 10 1 true) 60 1, 1 ≤ t.n := fun t ht => by
    have := (trains_sides ht).1
    omega
  rcases bestE_spec 60 1 _ hn with ⟨_, h, _⟩ | ⟨_, h1, h2, _⟩
  · exact h
  · obtain ⟨_, hw, hp⟩ := trains_sides h1
    have hm := isR_mul h2
    obtain ⟨a, a1, a2, ew⟩ := gen1 (sidesL_mem hw)
    obtain ⟨b, b1, b2, ep⟩ := gen1 (sidesL_mem hp)
    rw [ew, ep] at hm
    simp only at hm
    omega

theorem pick_two : bestE 60 1 (trainsL 2 (sidesL 60 80 2 false) (sidesL 6 10 2 true) 60 1) = ⟨2, w60, p60⟩ := by
  have hn : ∀ t ∈ trainsL 2 (sidesL 60 80 2 false) (sidesL 6 10 2 true) 60 1, 1 ≤ t.n := fun t ht => by
    have := (trains_sides ht).1
    omega
  have ht0 := trains_exact (st := 2) (sidesL_strict 60 80 2 false) (tn := 60) (td := 1) (by decide) w60_mem p60_mem (by decide)
  have hr0 : isR 60 1 ⟨((2 : Nat) : Int), w60, p60⟩ = true := by decide
  rcases bestE_spec 60 1 _ hn with ⟨_, _, h⟩ | ⟨_, h1, h2, h3⟩
  · have := h _ ht0
    rw [hr0] at this
    cases this
  · have hb := h3 _ ht0 hr0
    generalize bestE 60 1 (trainsL 2 (sidesL 60 80 2 false) (sidesL 6 10 2 true) 60 1) = u at *
    obtain ⟨hn2, hw, hp⟩ := trains_sides h1
    have hm := isR_mul h2
    obtain ⟨a, b, a1, a2, _, a3, ew⟩ := gen2 (sidesL_mem hw)
    obtain ⟨c, d, c1, c2, c3, _, ep⟩ := gen2 (sidesL_mem hp)
    obtain ⟨a3, a4⟩ := a3 rfl
    obtain ⟨c3, c4⟩ := c3 rfl
    have hlt : ¬ (Tr.lt ⟨((2 : Nat) : Int), w60, p60⟩ u) := by
      rw [← betF_iff, hb]; simp
    obtain ⟨n, w, p⟩ := u
    simp only at hn2 ew ep
    subst hn2; subst ew; subst ep
    simp only at hm
    have hs : a + b + (c + d) ≤ 136 := by
      dsimp only [Tr.lt, w60, p60] at hlt
      omega
    have m1 := Int.mul_le_mul (show 60 ≤ a from a1) (show 60 ≤ b from a3) (by omega) (by omega)
    generalize hab : a * b = ab at *
    rcases (show c = 6 ∨ c = 7 ∨ c = 8 ∨ c = 9 ∨ c = 10 by omega) with rfl | rfl | rfl | rfl | rfl
    · have ea : a = 60 := by omega
      have eb : b = 60 := by omega
      subst ea; subst eb
      have ed : d = 10 := by omega
      subst ed
      subst hab
      rfl
    all_goals
      exfalso
      have ea : a = 60 := by omega
      have eb : b = 60 := by omega
      subst ea; subst eb
      omega
end Go.Proofs.Ytmigddempeecoaa
