/- Walks: the statements' own fold and some; the reference's Next. -/
import Derived.Test.YtmcndbfnjpkelaaDf
namespace Go.Proofs.Ytmcndbfnjpkelaa
set_option linter.unusedVariables false
set_option linter.unusedSimpArgs false
open Go.RowKit Go.Lib

theorem tmod_bd (v n : Int) (hn : 0 < n) : -n < v.tmod n ∧ v.tmod n < n ∧ (v.tmod n + n) % n = v % n := by
  have h1 := Int.tmod_def v n
  refine ⟨?_, ?_, ?_⟩
  · rcases Int.lt_or_le v 0 with h | h
    · have : v.tmod n = -((-v) % n) := by
        rw [← Int.tmod_eq_emod_of_nonneg (by omega), Int.neg_tmod, Int.neg_neg]
      have := Int.emod_lt_of_pos (-v) hn
      omega
    · rw [Int.tmod_eq_emod_of_nonneg h]
      have := Int.emod_nonneg v (by omega : n ≠ 0)
      omega
  · rcases Int.lt_or_le v 0 with h | h
    · have : v.tmod n = -((-v) % n) := by
        rw [← Int.tmod_eq_emod_of_nonneg (by omega), Int.neg_tmod, Int.neg_neg]
      have := Int.emod_nonneg (-v) (by omega : n ≠ 0)
      omega
    · rw [Int.tmod_eq_emod_of_nonneg h]
      exact Int.emod_lt_of_pos v hn
  · rw [Int.add_emod_right, h1, Int.sub_emod, Int.mul_emod_right]
    simp

set_option maxHeartbeats 1000000 in
set_option maxRecDepth 100000 in
theorem fold_any (v n : Int) (w : World) (h0 : 1 ≤ n) (h1 : n ≤ 1000000000) (hv : -9223372036854775808 ≤ v) (hv' : v ≤ 9223372036854775807) :
    Calls Try.prog 56 #[.int .i64 v, .int .i64 n] w fun e w' => e = .returned (.int .i64 (v % n)) ∧ w = w' := by
  obtain ⟨b1, b2, b3⟩ := tmod_bd v n (by omega)
  have zn : ¬ n = 0 := by omega
  have zb : (n == 0) = false := by simpa using zn
  have w1 : IntKind.i64.wrap (v.tmod n) = v.tmod n := IntWalk.i64_in _ (by omega)
  have E := Lib.hid b3
  clear b3
  go_enter Try.func56, Try.ntmps56
  go_wp2
  go_ret
  exact ⟨ret_i64 E.out, rfl⟩
end Go.Proofs.Ytmcndbfnjpkelaa
