/- The walk of DialHands. -/
import Derived.Test.YtmcndbfnjpkelaaDlv
namespace Go.Proofs.Ytmcndbfnjpkelaa
set_option linter.unusedVariables false
set_option linter.unusedSimpArgs false
open Go.RowKit Go.Lib

set_option maxHeartbeats 1000000 in
set_option maxRecDepth 100000 in
theorem hands_ok (n : Int) (w : World) (h : 0 ≤ n ∧ n ≤ 1000000000) :
    Calls Try.prog 53 #[.int .i64 n] w fun e w' => e = .returned (.tuple #[.int .i64 (n % 480), .int .i64 (n / 480 % 30), .int .i64 (n / 480 / 60 % 12), .int .i64 0]) ∧ w = w' := by
  have HT := fun W => Lib.hid (validTime_any n W)
  rw [decide_eq_true h] at HT
  obtain ⟨h0, h1⟩ := h
  go_enter Try.func53, Try.ntmps53
  go_wp2_with (go_at_call 78; ((with_reducible refine (HT _).out.mono ?_); rintro e w' ⟨rfl, rfl⟩))
  (try simp only [Exit.inBlock, Exit.then])
  refine bodyPost_ret (v := .tuple #[.int .i64 (n % 480), .int .i64 (n / 480 % 30), .int .i64 (n / 480 / 60 % 12), .int .i64 0]) ?_ rfl ⟨rfl, rfl⟩
  have hres : Try.f53.results = #[.tmp 2, .tmp 3, .tmp 4, .tmp 5] := by kernel_rfl
  simp only [results, hres]
  go_simp

set_option maxHeartbeats 1000000 in
set_option maxRecDepth 100000 in
theorem hands_bad (n : Int) (w : World) (h : ¬ (0 ≤ n ∧ n ≤ 1000000000)) :
    Calls Try.prog 53 #[.int .i64 n] w fun e w' => e = .returned (.tuple #[.int .i64 0, .int .i64 0, .int .i64 0, .int .i64 1]) ∧ w = w' := by
  have HT := fun W => Lib.hid (validTime_any n W)
  rw [decide_eq_false h] at HT
  clear h
  go_enter Try.func53, Try.ntmps53
  go_wp2_with (go_at_call 78; ((with_reducible refine (HT _).out.mono ?_); rintro e w' ⟨rfl, rfl⟩))
  (try simp only [Exit.inBlock, Exit.then])
  refine bodyPost_ret (v := .tuple #[.int .i64 0, .int .i64 0, .int .i64 0, .int .i64 1]) ?_ rfl ⟨rfl, rfl⟩
  have hres : Try.f53.results = #[.tmp 2, .tmp 3, .tmp 4, .tmp 5] := by kernel_rfl
  simp only [results, hres]
  go_simp

set_option maxHeartbeats 1000000 in
set_option maxRecDepth 100000 in
theorem dialHands_walk (n : Int) (w : World) :
    Calls Try.prog 10 #[.int .i64 n] w fun e w' => e = .returned (.bool true) ∧ Below w.heap.size w w' := by
  have HLV := fun W => Lib.hid (lives_any W)
  by_cases h : 0 ≤ n ∧ n ≤ 1000000000
  · have HH := fun W => Lib.hid (hands_ok n W h)
    obtain ⟨h0, h1⟩ := h
    have e1 : n % 345600 % 480 = n % 480 := by omega
    have e2 : n % 345600 / 480 % 30 = n / 480 % 30 := by omega
    have e3 : n % 345600 / 28800 = n / 480 / 60 % 12 := by omega
    have b1 : 0 ≤ n % 480 ∧ n % 480 ≤ 479 := by omega
    have b2 : 0 ≤ n / 480 % 30 ∧ n / 480 % 30 ≤ 29 := by omega
    have b3 : 0 ≤ n / 480 / 60 % 12 ∧ n / 480 / 60 % 12 ≤ 11 := by omega
    have b4 : 0 ≤ n % 345600 ∧ n % 345600 ≤ 345600 := by omega
    generalize n % 480 = s at *
    generalize n / 480 % 30 = m at *
    generalize n / 480 / 60 % 12 = k at *
    obtain ⟨p1, p2⟩ := b1
    obtain ⟨p3, p4⟩ := b2
    obtain ⟨p5, p6⟩ := b3
    obtain ⟨p7, p8⟩ := b4
    go_enter Try.func10, Try.ntmps10
    go_wp2_with (first | (go_at_call 53; ((with_reducible refine (HH _).out.mono ?_); rintro e w' ⟨rfl, rfl⟩)) | (go_at_call 29; ((with_reducible refine (HLV _).out.mono ?_); rintro e w9 ⟨rfl, hk9⟩; have hb9 := hk9.below)))
    go_ret
    exact ⟨rfl, by (with_reducible repeat (first | exact Below.refl _ _ | refine bl_alloc ?_ _ | refine bl_drew ?_ | refine bl_drewN ?_ _ | (refine bl_set ?_ ?_ _; (focus dsimp only; omega)) | refine bl_call ?_ hb9))⟩
  · have HH := fun W => Lib.hid (hands_bad n W h)
    by_cases h0 : n < 0
    · clear h
      go_enter Try.func10, Try.ntmps10
      go_wp2_with (first | (go_at_call 53; ((with_reducible refine (HH _).out.mono ?_); rintro e w' ⟨rfl, rfl⟩)) | (go_at_call 29; ((with_reducible refine (HLV _).out.mono ?_); rintro e w9 ⟨rfl, hk9⟩; have hb9 := hk9.below)))
      go_ret
      exact ⟨rfl, by (with_reducible repeat (first | exact Below.refl _ _ | refine bl_alloc ?_ _ | refine bl_drew ?_ | refine bl_drewN ?_ _ | (refine bl_set ?_ ?_ _; (focus dsimp only; omega)) | refine bl_call ?_ hb9))⟩
    · have h1 : 1000000000 < n := by omega
      have h2 : 0 ≤ n := by omega
      clear h h0
      go_enter Try.func10, Try.ntmps10
      go_wp2_with (first | (go_at_call 53; ((with_reducible refine (HH _).out.mono ?_); rintro e w' ⟨rfl, rfl⟩)) | (go_at_call 29; ((with_reducible refine (HLV _).out.mono ?_); rintro e w9 ⟨rfl, hk9⟩; have hb9 := hk9.below)))
      go_ret
      exact ⟨rfl, by (with_reducible repeat (first | exact Below.refl _ _ | refine bl_alloc ?_ _ | refine bl_drew ?_ | refine bl_drewN ?_ _ | (refine bl_set ?_ ?_ _; (focus dsimp only; omega)) | refine bl_call ?_ hb9))⟩
end Go.Proofs.Ytmcndbfnjpkelaa
