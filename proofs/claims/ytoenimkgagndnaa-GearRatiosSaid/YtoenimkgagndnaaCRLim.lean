/- The reference's Limits. -/
import Derived.Test.YtoenimkgagndnaaGc
namespace Go.Proofs.Ytoenimkgagndnaa
set_option linter.unusedVariables false
set_option linter.unusedSimpArgs false
open Go.RowKit Go.Lib

theorem vlF_iff (a b c d k : Int) : vlF a b c d k = true ↔ (1 ≤ a ∧ a ≤ b ∧ b ≤ 200 ∧ b - a < 64) ∧ (1 ≤ c ∧ c ≤ d ∧ d ≤ 200 ∧ d - c < 12) ∧ 1 ≤ k ∧ k ≤ 3 := by
  unfold vlF vtF
  rw [Bool.and_eq_true, Bool.and_eq_true, decide_eq_true_eq, decide_eq_true_eq, decide_eq_true_eq]
  omega
theorem vlF_no {a b c d k : Int} (h : ¬ ((1 ≤ a ∧ a ≤ b ∧ b ≤ 200 ∧ b - a < 64) ∧ (1 ≤ c ∧ c ≤ d ∧ d ≤ 200 ∧ d - c < 12) ∧ 1 ≤ k ∧ k ≤ 3)) : vlF a b c d k = false := by
  rw [Bool.eq_false_iff]
  intro h'
  exact h ((vlF_iff a b c d k).1 h')

set_option maxHeartbeats 4000000 in
set_option maxRecDepth 100000 in
theorem refLimits_any (a b c d k : Int) (w : World) :
    Calls Try.prog 38 #[.agg #[.int .i64 a, .int .i64 b, .int .i64 c, .int .i64 d, .int .i64 k]] w fun e w' => e = .returned (.bool (vlF a b c d k)) ∧ Gro w w' := by
  by_cases h1 : a < 1
  · rw [vlF_no (by omega)]
    go_enter Try.func38, Try.ntmps38
    go_wp2_with fail
    go_ret
    first
      | exact ⟨rfl, by (with_reducible repeat (first | exact gro_refl _ | refine gro_alloc ?_ _ | refine gro_drew ?_ | refine gro_drewN ?_ _ | (refine gro_set ?_ ?_ _; (focus first | omega | (dsimp only; omega)))))⟩
      | exact ⟨ret_bool (by simp; try omega), by (with_reducible repeat (first | exact gro_refl _ | refine gro_alloc ?_ _ | refine gro_drew ?_ | refine gro_drewN ?_ _ | (refine gro_set ?_ ?_ _; (focus first | omega | (dsimp only; omega)))))⟩
  · have h1' : 1 ≤ a := by omega
    clear h1
    by_cases h2 : b < a
    · rw [vlF_no (by omega)]
      go_enter Try.func38, Try.ntmps38
      go_wp2_with fail
      go_ret
      first
        | exact ⟨rfl, by (with_reducible repeat (first | exact gro_refl _ | refine gro_alloc ?_ _ | refine gro_drew ?_ | refine gro_drewN ?_ _ | (refine gro_set ?_ ?_ _; (focus first | omega | (dsimp only; omega)))))⟩
        | exact ⟨ret_bool (by simp; try omega), by (with_reducible repeat (first | exact gro_refl _ | refine gro_alloc ?_ _ | refine gro_drew ?_ | refine gro_drewN ?_ _ | (refine gro_set ?_ ?_ _; (focus first | omega | (dsimp only; omega)))))⟩
    · have h2' : a ≤ b := by omega
      clear h2
      by_cases h3 : 200 < b
      · rw [vlF_no (by omega)]
        go_enter Try.func38, Try.ntmps38
        go_wp2_with fail
        go_ret
        first
          | exact ⟨rfl, by (with_reducible repeat (first | exact gro_refl _ | refine gro_alloc ?_ _ | refine gro_drew ?_ | refine gro_drewN ?_ _ | (refine gro_set ?_ ?_ _; (focus first | omega | (dsimp only; omega)))))⟩
          | exact ⟨ret_bool (by simp; try omega), by (with_reducible repeat (first | exact gro_refl _ | refine gro_alloc ?_ _ | refine gro_drew ?_ | refine gro_drewN ?_ _ | (refine gro_set ?_ ?_ _; (focus first | omega | (dsimp only; omega)))))⟩
      · have h3' : b ≤ 200 := by omega
        clear h3
        by_cases h4 : 64 ≤ b - a
        · rw [vlF_no (by omega)]
          go_enter Try.func38, Try.ntmps38
          go_wp2_with fail
          go_ret
          first
            | exact ⟨rfl, by (with_reducible repeat (first | exact gro_refl _ | refine gro_alloc ?_ _ | refine gro_drew ?_ | refine gro_drewN ?_ _ | (refine gro_set ?_ ?_ _; (focus first | omega | (dsimp only; omega)))))⟩
            | exact ⟨ret_bool (by simp; try omega), by (with_reducible repeat (first | exact gro_refl _ | refine gro_alloc ?_ _ | refine gro_drew ?_ | refine gro_drewN ?_ _ | (refine gro_set ?_ ?_ _; (focus first | omega | (dsimp only; omega)))))⟩
        · have h4' : b - a < 64 := by omega
          clear h4
          by_cases h5 : c < 1
          · rw [vlF_no (by omega)]
            go_enter Try.func38, Try.ntmps38
            go_wp2_with fail
            go_ret
            first
              | exact ⟨rfl, by (with_reducible repeat (first | exact gro_refl _ | refine gro_alloc ?_ _ | refine gro_drew ?_ | refine gro_drewN ?_ _ | (refine gro_set ?_ ?_ _; (focus first | omega | (dsimp only; omega)))))⟩
              | exact ⟨ret_bool (by simp; try omega), by (with_reducible repeat (first | exact gro_refl _ | refine gro_alloc ?_ _ | refine gro_drew ?_ | refine gro_drewN ?_ _ | (refine gro_set ?_ ?_ _; (focus first | omega | (dsimp only; omega)))))⟩
          · have h5' : 1 ≤ c := by omega
            clear h5
            by_cases h6 : d < c
            · rw [vlF_no (by omega)]
              go_enter Try.func38, Try.ntmps38
              go_wp2_with fail
              go_ret
              first
                | exact ⟨rfl, by (with_reducible repeat (first | exact gro_refl _ | refine gro_alloc ?_ _ | refine gro_drew ?_ | refine gro_drewN ?_ _ | (refine gro_set ?_ ?_ _; (focus first | omega | (dsimp only; omega)))))⟩
                | exact ⟨ret_bool (by simp; try omega), by (with_reducible repeat (first | exact gro_refl _ | refine gro_alloc ?_ _ | refine gro_drew ?_ | refine gro_drewN ?_ _ | (refine gro_set ?_ ?_ _; (focus first | omega | (dsimp only; omega)))))⟩
            · have h6' : c ≤ d := by omega
              clear h6
              by_cases h7 : 200 < d
              · rw [vlF_no (by omega)]
                go_enter Try.func38, Try.ntmps38
                go_wp2_with fail
                go_ret
                first
                  | exact ⟨rfl, by (with_reducible repeat (first | exact gro_refl _ | refine gro_alloc ?_ _ | refine gro_drew ?_ | refine gro_drewN ?_ _ | (refine gro_set ?_ ?_ _; (focus first | omega | (dsimp only; omega)))))⟩
                  | exact ⟨ret_bool (by simp; try omega), by (with_reducible repeat (first | exact gro_refl _ | refine gro_alloc ?_ _ | refine gro_drew ?_ | refine gro_drewN ?_ _ | (refine gro_set ?_ ?_ _; (focus first | omega | (dsimp only; omega)))))⟩
              · have h7' : d ≤ 200 := by omega
                clear h7
                by_cases h8 : 12 ≤ d - c
                · rw [vlF_no (by omega)]
                  go_enter Try.func38, Try.ntmps38
                  go_wp2_with fail
                  go_ret
                  first
                    | exact ⟨rfl, by (with_reducible repeat (first | exact gro_refl _ | refine gro_alloc ?_ _ | refine gro_drew ?_ | refine gro_drewN ?_ _ | (refine gro_set ?_ ?_ _; (focus first | omega | (dsimp only; omega)))))⟩
                    | exact ⟨ret_bool (by simp; try omega), by (with_reducible repeat (first | exact gro_refl _ | refine gro_alloc ?_ _ | refine gro_drew ?_ | refine gro_drewN ?_ _ | (refine gro_set ?_ ?_ _; (focus first | omega | (dsimp only; omega)))))⟩
                · have h8' : d - c < 12 := by omega
                  clear h8
                  by_cases h9 : k < 1
                  · rw [vlF_no (by omega)]
                    go_enter Try.func38, Try.ntmps38
                    go_wp2_with fail
                    go_ret
                    first
                      | exact ⟨rfl, by (with_reducible repeat (first | exact gro_refl _ | refine gro_alloc ?_ _ | refine gro_drew ?_ | refine gro_drewN ?_ _ | (refine gro_set ?_ ?_ _; (focus first | omega | (dsimp only; omega)))))⟩
                      | exact ⟨ret_bool (by simp; try omega), by (with_reducible repeat (first | exact gro_refl _ | refine gro_alloc ?_ _ | refine gro_drew ?_ | refine gro_drewN ?_ _ | (refine gro_set ?_ ?_ _; (focus first | omega | (dsimp only; omega)))))⟩
                  · have h9' : 1 ≤ k := by omega
                    clear h9
                    by_cases h10 : 3 < k
                    · rw [vlF_no (by omega)]
                      go_enter Try.func38, Try.ntmps38
                      go_wp2_with fail
                      go_ret
                      first
                        | exact ⟨rfl, by (with_reducible repeat (first | exact gro_refl _ | refine gro_alloc ?_ _ | refine gro_drew ?_ | refine gro_drewN ?_ _ | (refine gro_set ?_ ?_ _; (focus first | omega | (dsimp only; omega)))))⟩
                        | exact ⟨ret_bool (by simp; try omega), by (with_reducible repeat (first | exact gro_refl _ | refine gro_alloc ?_ _ | refine gro_drew ?_ | refine gro_drewN ?_ _ | (refine gro_set ?_ ?_ _; (focus first | omega | (dsimp only; omega)))))⟩
                    · have h10' : k ≤ 3 := by omega
                      clear h10
                      rw [(vlF_iff a b c d k).2 (by omega)]
                      go_enter Try.func38, Try.ntmps38
                      go_wp2_with fail
                      go_ret
                      first
                        | exact ⟨rfl, by (with_reducible repeat (first | exact gro_refl _ | refine gro_alloc ?_ _ | refine gro_drew ?_ | refine gro_drewN ?_ _ | (refine gro_set ?_ ?_ _; (focus first | omega | (dsimp only; omega)))))⟩
                        | exact ⟨ret_bool (by simp; try omega), by (with_reducible repeat (first | exact gro_refl _ | refine gro_alloc ?_ _ | refine gro_drew ?_ | refine gro_drewN ?_ _ | (refine gro_set ?_ ?_ _; (focus first | omega | (dsimp only; omega)))))⟩
end Go.Proofs.Ytoenimkgagndnaa
