/- Walks of package gear: sums and differences of two words, quotient and rest where the upper word is 0. -/
import Derived.Test.YtoenimkgagndnaaGg
import Derived.Shelf.Spec.BitsCarry
namespace Go.Proofs.Ytoenimkgagndnaa
set_option linter.unusedVariables false
set_option linter.unusedSimpArgs false
open Go.RowKit Go.Lib

theorem add64 (x y c : Int) (hx : 0 ≤ x) (hy : 0 ≤ y) (hc0 : 0 ≤ c) (hc : c ≤ 1) (w : World) : (callFunc 116 #[.int .u64 x, .int .u64 y, .int .u64 c]).run Try.prog w =
    .ok (.value (.tuple #[.int .u64 ((x + y + c) % 18446744073709551616), .int .u64 ((x + y + c) / 18446744073709551616)])) w := by
  rw [run_callFunc_extern Try.func116 (by kernel_rfl) (by kernel_rfl) (by kernel_rfl) (e := add64Entry) (by kernel_rfl), run_add64 x y c hx hy hc0 hc]
  rfl
theorem add64_0 (x y : Int) (hx : 0 ≤ x) (hy : 0 ≤ y) (w : World) : (callFunc 116 #[.int .u64 x, .int .u64 y, .int .u64 0]).run Try.prog w =
    .ok (.value (.tuple #[.int .u64 ((x + y) % 18446744073709551616), .int .u64 ((x + y) / 18446744073709551616)])) w := by
  have h := add64 x y 0 hx hy (Int.le_refl 0) (by decide) w
  rw [Int.add_zero] at h
  exact h
theorem sub64 (x y b : Nat) (hy : y + b ≤ x) (hx : x < 18446744073709551616) (hb : b ≤ 1) (w : World) : (callFunc 117 #[.int .u64 x, .int .u64 y, .int .u64 b]).run Try.prog w =
    .ok (.value (.tuple #[.int .u64 ((x : Int) - y - b), .int .u64 0])) w := by
  rw [run_callFunc_extern Try.func117 (by kernel_rfl) (by kernel_rfl) (by kernel_rfl) (e := sub64Entry) (by kernel_rfl), run_sub64 x y b hb]
  rw [if_neg (by omega)]
  have e1 : (((x + 18446744073709551616 - y - b) % 18446744073709551616 : Nat) : Int) = (x : Int) - y - b := by omega
  rw [e1]
  rfl
theorem sub64_0 (x y : Int) (h0 : 0 ≤ y) (hy : y ≤ x) (hx : x < 18446744073709551616) (w : World) : (callFunc 117 #[.int .u64 x, .int .u64 y, .int .u64 0]).run Try.prog w =
    .ok (.value (.tuple #[.int .u64 (x - y), .int .u64 0])) w := by
  obtain ⟨x, rfl⟩ := Int.eq_ofNat_of_zero_le (show 0 ≤ x by omega)
  obtain ⟨y, rfl⟩ := Int.eq_ofNat_of_zero_le h0
  have h := sub64 x y 0 (by omega) (by omega) (by omega) w
  simpa using h

/-- The sum of two numbers of one word that is one. -/
theorem plus_low (a b : Int) (w : World) (ha : 0 ≤ a) (hb : 0 ≤ b) (hs : a + b ≤ 18446744073709551615) :
    Calls Try.prog 100 #[.agg #[.int .u64 0, .int .u64 a], .agg #[.int .u64 0, .int .u64 b]] w fun v w' => v = .returned (.agg #[.int .u64 0, .int .u64 (a + b)]) ∧ Below w.heap.size w w' := by
  have e1 : (a + b) % 18446744073709551616 = a + b := by omega
  have e2 : (a + b) / 18446744073709551616 = 0 := by omega
  have k1 := fun w => add64_0 a b ha hb w
  have k2 := fun w => add64_0 0 0 (Int.le_refl 0) (Int.le_refl 0) w
  rw [e1, e2] at k1
  generalize a + b = c at *
  go_enter Try.func100, Try.ntmps100
  go_wp2_with (first | simp only [k1] | simp only [k2])
  exact bodyPost_ret (v := .agg #[.int .u64 0, .int .u64 c]) (by simp [results, Try.results100, go_sem]) rfl ⟨rfl, by (with_reducible repeat (first | exact Below.refl _ _ | refine bl_alloc ?_ _ | refine bl_drew ?_ | refine bl_drewN ?_ _ | (refine bl_set ?_ ?_ _; (focus dsimp only; omega))))⟩

/-- The difference of two numbers of one word. -/
theorem minus_low (a b : Int) (w : World) (hb : 0 ≤ b) (hs : b ≤ a) (ha : a ≤ 18446744073709551615) :
    Calls Try.prog 101 #[.agg #[.int .u64 0, .int .u64 a], .agg #[.int .u64 0, .int .u64 b]] w fun v w' => v = .returned (.agg #[.int .u64 0, .int .u64 (a - b)]) ∧ Below w.heap.size w w' := by
  have k1 := fun w => sub64_0 a b hb hs (by omega) w
  have k2 := fun w => sub64_0 0 0 (Int.le_refl 0) (Int.le_refl 0) (by omega) w
  generalize a - b = c at *
  go_enter Try.func101, Try.ntmps101
  go_wp2_with (first | simp only [k1] | simp only [k2])
  exact bodyPost_ret (v := .agg #[.int .u64 0, .int .u64 c]) (by simp [results, Try.results101, go_sem]) rfl ⟨rfl, by (with_reducible repeat (first | exact Below.refl _ _ | refine bl_alloc ?_ _ | refine bl_drew ?_ | refine bl_drewN ?_ _ | (refine bl_set ?_ ?_ _; (focus dsimp only; omega))))⟩

/-- Div64 with an upper word of 0. -/
theorem div64_low (a d : Int) (w : World) (ha : 0 ≤ a) (ha' : a ≤ 18446744073709551615) (hd : 1 ≤ d) (hd' : d ≤ 18446744073709551615) :
    Calls Try.prog 119 #[.int .u64 0, .int .u64 a, .int .u64 d] w fun v w' => v = .returned (.tuple #[.int .u64 (a / d), .int .u64 (a % d)]) ∧ Gro w w' := by
  have d1 : ¬ d = 0 := by omega
  have d2 : ¬ d ≤ 0 := by omega
  have hq := Int.ediv_nonneg ha (show 0 ≤ d by omega)
  have hql := Int.ediv_le_self d ha
  have hr := Int.emod_nonneg a (show d ≠ 0 by omega)
  have hr2 := Int.emod_lt_of_pos a (show 0 < d by omega)
  have t1 : a.tdiv d = a / d := Int.tdiv_eq_ediv_of_nonneg ha
  have t2 : a.tmod d = a % d := Int.tmod_eq_emod_of_nonneg ha
  have w1 : IntKind.u64.wrap (a / d) = a / d := IntWalk.u64_in _ (by omega)
  have w2 : IntKind.u64.wrap (a % d) = a % d := IntWalk.u64_in _ (by omega)
  go_enter Try.func119, Try.ntmps119
  go_wp2_with fail
  go_region
  go_wp2_with fail
  exact bodyPost_ret (v := .tuple #[.int .u64 (a / d), .int .u64 (a % d)]) (by simp [results, Try.results119, go_sem, t1, t2, w1, w2]) rfl ⟨rfl, by (with_reducible repeat (first | exact gro_refl _ | refine gro_alloc ?_ _ | refine gro_drew ?_ | refine gro_drewN ?_ _ | (refine gro_set ?_ ?_ _; (focus first | omega | (dsimp only; omega)))))⟩
theorem rem64_low (a d : Int) (w : World) (ha : 0 ≤ a) (ha' : a ≤ 18446744073709551615) (hd : 1 ≤ d) (hd' : d ≤ 18446744073709551615) :
    Calls Try.prog 118 #[.int .u64 0, .int .u64 a, .int .u64 d] w fun v w' => v = .returned (.int .u64 (a % d)) ∧ Gro w w' := by
  have d1 : ¬ d = 0 := by omega
  have H := fun W => Lib.hid (div64_low a d W ha ha' hd hd')
  go_enter Try.func118, Try.ntmps118
  go_wp2_with (go_at_call 119; refine (H _).out.mono ?_; rintro v w2 ⟨rfl, hk2⟩; have hG : Gro w w2 := (by (with_reducible repeat (first | exact gro_refl _ | refine gro_alloc ?_ _ | refine gro_drew ?_ | refine gro_drewN ?_ _ | (refine gro_set ?_ ?_ _; (focus first | omega | (dsimp only; omega))) | refine gro_call ?_ hk2))))
  go_ret
  exact ⟨rfl, by (with_reducible repeat (first | exact hG | exact gro_refl _ | refine gro_alloc ?_ _ | refine gro_drew ?_ | refine gro_drewN ?_ _ | (refine gro_set ?_ ?_ _; (focus first | omega | (dsimp only; omega)))))⟩
theorem rest_low (a d : Int) (w : World) (ha : 0 ≤ a) (ha' : a ≤ 18446744073709551615) (hd : 1 ≤ d) (hd' : d ≤ 18446744073709551615) :
    Calls Try.prog 102 #[.agg #[.int .u64 0, .int .u64 a], .int .u64 d] w fun v w' => v = .returned (.int .u64 (a % d)) ∧ Gro w w' := by
  have H := fun W => Lib.hid (rem64_low a d W ha ha' hd hd')
  go_enter Try.func102, Try.ntmps102
  go_wp2_with (go_at_call 118; refine (H _).out.mono ?_; rintro v w2 ⟨rfl, hk2⟩; have hG : Gro w w2 := (by (with_reducible repeat (first | exact gro_refl _ | refine gro_alloc ?_ _ | refine gro_drew ?_ | refine gro_drewN ?_ _ | (refine gro_set ?_ ?_ _; (focus first | omega | (dsimp only; omega))) | refine gro_call ?_ hk2))))
  go_ret
  exact ⟨rfl, by (with_reducible repeat (first | exact hG | exact gro_refl _ | refine gro_alloc ?_ _ | refine gro_drew ?_ | refine gro_drewN ?_ _ | (refine gro_set ?_ ?_ _; (focus first | omega | (dsimp only; omega)))))⟩
set_option maxHeartbeats 1000000 in
theorem over_low (a d : Int) (w : World) (ha : 0 ≤ a) (ha' : a ≤ 18446744073709551615) (hd : 1 ≤ d) (hd' : d ≤ 18446744073709551615) :
    Calls Try.prog 103 #[.agg #[.int .u64 0, .int .u64 a], .int .u64 d] w fun v w' => v = .returned (.agg #[.int .u64 0, .int .u64 (a / d)]) ∧ Below w.heap.size w w' := by
  have d1 : ¬ d = 0 := by omega
  have H := fun W => Lib.hid (div64_low a d W ha ha' hd hd')
  generalize a / d = q at *
  go_enter Try.func103, Try.ntmps103
  go_wp2_with fail
  go_region_held3 (fun w' => w'.cell? ⟨w.heap.size, 0, none⟩ = some (.int .u64 0) ∧ w'.cell? ⟨w.heap.size, 1, none⟩ = some (.int .u64 a)) (((try dsimp only); (repeat' apply And.intro)) <;> (with_reducible repeat (first | exact r0 | exact r1 | refine kc_drew ?_ | refine kc_drewN _ ?_ | refine kc_below hb2 ?_ | (refine kc_new ?_ ?_; (focus first | rfl | (simp only [World.size_alloc, World.size_setCell, World.size_drew, size_drewN]; done)); (focus first | rfl | (simp; done))) | (refine kc_set0 ?_ ?_; (focus first | rfl | (simp; done))) | exact ct_of (by assumption) | refine ct_drew ?_ | refine ct_drewN _ ?_ | refine ct_below hb2 ?_ | (refine ct_new ?_ ?_; (focus first | rfl | (simp only [World.size_alloc, World.size_setCell, World.size_drew, size_drewN]; done)); (focus first | rfl | (simp; done))) | refine ct_set _ _ ?_ | refine ct_alloc _ ?_ | (refine kc_set ?_ ?_; (focus first | (intro hx; injection hx; omega) | (simp; done))) | refine kc_alloc _ ?_))) (first | (go_at_call 119; ((with_reducible refine (H _).out.mono ?_); rintro v w2 ⟨rfl, hk2⟩; have hb2 := hk2.below; have ⟨r0, r1, r2, r3⟩ : w2.cell? ⟨w.heap.size, 0, none⟩ = some (.int .u64 0) ∧ w2.cell? ⟨w.heap.size, 1, none⟩ = some (.int .u64 a) ∧ w2.cell? ⟨w.heap.size + 1, 0, none⟩ = some (.int .u64 0) ∧ w2.cell? ⟨w.heap.size + 1, 1, none⟩ = some (.int .u64 0) := (by and_intros <;> (with_reducible repeat (first | exact r0 | exact r1 | exact r2 | exact r3 | exact r4 | exact r5 | refine kc_drew ?_ | refine kc_drewN _ ?_ | refine kc_below hb2 ?_ | (refine kc_new ?_ ?_; (focus first | rfl | (simp only [World.size_alloc, World.size_setCell, World.size_drew, size_drewN]; done)); (focus first | rfl | (simp; done))) | (refine kc_set0 ?_ ?_; (focus first | rfl | (simp; done))) | exact ct_of (by assumption) | refine ct_drew ?_ | refine ct_drewN _ ?_ | refine ct_below hb2 ?_ | (refine ct_new ?_ ?_; (focus first | rfl | (simp only [World.size_alloc, World.size_setCell, World.size_drew, size_drewN]; done)); (focus first | rfl | (simp; done))) | refine ct_set _ _ ?_ | refine ct_alloc _ ?_ | (refine kc_set ?_ ?_; (focus first | (intro hx; injection hx; omega) | (simp; done))) | refine kc_alloc _ ?_))); have ⟨r4, r5⟩ : w2.frozen? ⟨w.heap.size + 1, 0, none⟩ = false ∧ w2.frozen? ⟨w.heap.size + 1, 1, none⟩ = false := (by and_intros <;> (with_reducible repeat (first | exact r0 | exact r1 | exact r2 | exact r3 | exact r4 | exact r5 | refine kf_drew ?_ | refine kf_drewN _ ?_ | (refine kf_new ?_ _; (focus first | rfl | (simp only [World.size_alloc, World.size_setCell, World.size_drew, size_drewN]; done))) | refine kf_set _ _ ?_ | (refine kf_below hb2 ?_ ?_; (focus simp only [World.size_alloc, World.size_setCell, World.size_drew, size_drewN]; omega)) | (refine kf_alloc _ ?_ ?_; (focus first | (simp only [World.size_alloc, World.size_setCell, World.size_drew, size_drewN]; omega) | (dsimp only; omega)))))); have hB : Below w.heap.size w w2 := (by (with_reducible repeat (first | exact Below.refl _ _ | refine bl_alloc ?_ _ | refine bl_drew ?_ | refine bl_drewN ?_ _ | (refine bl_set ?_ ?_ _; (focus dsimp only; omega)) | refine bl_call ?_ hb2))); have g1 : w.heap.size + 1 < w2.heap.size := (World.block_lt_of_cell? _ _ r2))))
  all_goals go_wp2_with fail
  all_goals exact bodyPost_ret (v := .agg #[.int .u64 0, .int .u64 q]) (by simp [results, Try.results103, go_sem, r2, r3, g1, Nat.ne_of_lt g1]) rfl ⟨rfl, by (with_reducible repeat (first | exact hB | exact Below.refl _ _ | refine bl_alloc ?_ _ | refine bl_drew ?_ | refine bl_drewN ?_ _ | (refine bl_set ?_ ?_ _; (focus dsimp only; omega))))⟩
end Go.Proofs.Ytoenimkgagndnaa
