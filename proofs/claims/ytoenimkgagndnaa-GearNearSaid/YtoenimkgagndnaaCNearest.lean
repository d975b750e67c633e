/- Walks of package gear: floor, Nearest. -/
import Derived.Test.YtoenimkgagndnaaCNear
import Derived.Test.YtoenimkgagndnaaGa
namespace Go.Proofs.Ytoenimkgagndnaa
set_option linter.unusedVariables false
set_option linter.unusedSimpArgs false
open Go.RowKit Go.Lib

/-- The quotient rounded down, from the one rounded to 0. -/
theorem floor_neg {n d : Int} (hn : n < 0) (hd : 1 ≤ d) : (n.tmod d < 0 → n.tdiv d - 1 = n / d) ∧ (¬ n.tmod d < 0 → n.tdiv d = n / d) ∧ n ≤ n.tdiv d ∧ n.tdiv d ≤ 0 ∧ -d < n.tmod d ∧ n.tmod d ≤ 0 := by
  have e1 : n.tdiv d = -((-n) / d) := by rw [← Int.tdiv_eq_ediv_of_nonneg (show 0 ≤ -n by omega), Int.neg_tdiv, Int.neg_neg]
  have e2 : n.tmod d = -((-n) % d) := by rw [← Int.tmod_eq_emod_of_nonneg (show 0 ≤ -n by omega), Int.neg_tmod, Int.neg_neg]
  have hr := Int.emod_nonneg (-n) (show d ≠ 0 by omega)
  have hr2 := Int.emod_lt_of_pos (-n) (show 0 < d by omega)
  have hq := Int.ediv_nonneg (show 0 ≤ -n by omega) (show 0 ≤ d by omega)
  have hql := Int.ediv_le_self d (show 0 ≤ -n by omega)
  have he : (-n) % d = -n - d * ((-n) / d) := Int.emod_def _ _
  rw [e1, e2]
  generalize (-n) % d = r at *
  generalize (-n) / d = q at *
  refine ⟨fun h => ?_, fun h => ?_, by omega, by omega, by omega, by omega⟩
  · have := ((Int.ediv_emod_unique (a := n) (b := d) (r := d - r) (q := -q - 1) (by omega)).2 ⟨by rw [Int.mul_sub, Int.mul_neg]; omega, by omega, by omega⟩).1
    omega
  · have := ((Int.ediv_emod_unique (a := n) (b := d) (r := 0) (q := -q) (by omega)).2 ⟨by rw [Int.mul_neg]; omega, by omega, by omega⟩).1
    omega

set_option maxHeartbeats 1000000 in
theorem floorG_any (n d : Int) (w : World) (hn : -4611686018427387904 ≤ n) (hn' : n ≤ 4611686018427387904) (hd : 1 ≤ d) (hd' : d ≤ 4611686018427387904) :
    Calls Try.prog 69 #[.agg #[.int .i64 n, .int .i64 d]] w fun v w' => v = .returned (.int .i64 (n / d)) ∧ Below w.heap.size w w' := by
  have d1 : ¬ d = 0 := by omega
  have d2 : ¬ (d : Int) = 0 := by omega
  by_cases h : 0 ≤ n
  · have hr := Int.emod_nonneg n (show d ≠ 0 by omega)
    have hq := Int.ediv_nonneg h (show 0 ≤ d by omega)
    have hql := Int.ediv_le_self d h
    go_enter Try.func69, Try.ntmps69
    go_wp2_with fail
    go_ret
    exact ⟨rfl, by (with_reducible repeat (first | exact Below.refl _ _ | refine bl_alloc ?_ _ | refine bl_drew ?_ | refine bl_drewN ?_ _ | (refine bl_set ?_ ?_ _; (focus dsimp only; omega))))⟩
  · obtain ⟨f1, f2, f3, f4, f5, f6⟩ := floor_neg (show n < 0 by omega) hd
    have w1 : IntKind.i64.wrap (n.tdiv d) = n.tdiv d := IntWalk.i64_in _ (by omega)
    have w2 : IntKind.i64.wrap (n.tmod d) = n.tmod d := IntWalk.i64_in _ (by omega)
    by_cases hm : n.tmod d < 0
    · have E := Lib.hid (f1 hm)
      clear f1 f2
      go_enter Try.func69, Try.ntmps69
      go_wp2_with fail
      go_ret
      exact ⟨ret_i64 E.out, by (with_reducible repeat (first | exact Below.refl _ _ | refine bl_alloc ?_ _ | refine bl_drew ?_ | refine bl_drewN ?_ _ | (refine bl_set ?_ ?_ _; (focus dsimp only; omega))))⟩
    · have E := Lib.hid (f2 hm)
      clear f1 f2
      go_enter Try.func69, Try.ntmps69
      go_wp2_with fail
      go_ret
      exact ⟨ret_i64 E.out, by (with_reducible repeat (first | exact Below.refl _ _ | refine bl_alloc ?_ _ | refine bl_drew ?_ | refine bl_drewN ?_ _ | (refine bl_set ?_ ?_ _; (focus dsimp only; omega))))⟩

set_option maxHeartbeats 2000000 in
set_option maxRecDepth 100000 in
theorem nearest_ok (n d most : Int) (w : World) (ho : okF n d) (m1 : 1 ≤ most) (m2 : most ≤ 4611686018427387904) :
    Calls Try.prog 28 #[.agg #[.int .i64 n, .int .i64 d], .int .i64 most] w fun v w' => ∃ P Q, v = .returned (.tuple #[.agg #[.int .i64 P, .int .i64 Q], .int .i64 0]) ∧ Hid (NearP n d most P Q ∧ okF P Q) ∧ Below w.heap.size w w' := by
  have HO := Lib.hid ho
  obtain ⟨d1, d2, n1, n2, hg⟩ := ho
  have HC := fun W => Lib.hid (check_any n d W (by omega) (by omega) (by omega) (by omega))
  rw [show ckF n d = 0 by unfold ckF; rw [if_pos HO.out]] at HC
  by_cases hdm : d ≤ most
  · have HS := Lib.hid (near_self hg d1 hdm)
    clear hg
    go_enter Try.func28, Try.ntmps28
    have hB : Below w.heap.size w w := Below.refl _ _
    go_wp2_with (go_at_call 20; ((with_reducible refine (HC _).out.mono ?_); rintro e w2 ⟨rfl, hk2⟩; have hb2 := hk2.below; have hz2 := hb2.size; (try simp only [World.size_alloc, World.size_setCell, World.size_drew, size_drewN] at hz2); have ⟨r0, r1, r2, r3⟩ : w2.cell? ⟨w.heap.size, 0, none⟩ = some (.int .i64 n) ∧ w2.cell? ⟨w.heap.size, 1, none⟩ = some (.int .i64 d) ∧ w2.cell? ⟨w.heap.size + 1, 0, none⟩ = some (.int .i64 0) ∧ w2.cell? ⟨w.heap.size + 1, 1, none⟩ = some (.int .i64 0) := (by and_intros <;> (with_reducible repeat (first | exact r0 | exact r1 | exact r2 | exact r3 | exact r4 | exact r5 | refine kc_drew ?_ | refine kc_drewN _ ?_ | refine kc_below hb2 ?_ | (refine kc_new ?_ ?_; (focus first | rfl | (simp only [World.size_alloc, World.size_setCell, World.size_drew, size_drewN]; done)); (focus first | rfl | (simp; done))) | (refine kc_set0 ?_ ?_; (focus first | rfl | (simp; done))) | exact ct_of (by assumption) | refine ct_drew ?_ | refine ct_drewN _ ?_ | refine ct_below hb2 ?_ | (refine ct_new ?_ ?_; (focus first | rfl | (simp only [World.size_alloc, World.size_setCell, World.size_drew, size_drewN]; done)); (focus first | rfl | (simp; done))) | refine ct_set _ _ ?_ | refine ct_alloc _ ?_ | (refine kc_set ?_ ?_; (focus first | (intro hx; injection hx; omega) | (simp; done))) | refine kc_alloc _ ?_))); have ⟨r4, r5⟩ : w2.frozen? ⟨w.heap.size + 1, 0, none⟩ = false ∧ w2.frozen? ⟨w.heap.size + 1, 1, none⟩ = false := (by and_intros <;> (with_reducible repeat (first | exact r0 | exact r1 | exact r2 | exact r3 | exact r4 | exact r5 | refine kf_drew ?_ | refine kf_drewN _ ?_ | (refine kf_new ?_ _; (focus first | rfl | (simp only [World.size_alloc, World.size_setCell, World.size_drew, size_drewN]; done))) | refine kf_set _ _ ?_ | (refine kf_below hb2 ?_ ?_; (focus simp only [World.size_alloc, World.size_setCell, World.size_drew, size_drewN]; omega)) | (refine kf_alloc _ ?_ ?_; (focus first | (simp only [World.size_alloc, World.size_setCell, World.size_drew, size_drewN]; omega) | (dsimp only; omega)))))); have hB : Below w.heap.size w w2 := (by (with_reducible repeat (first | exact hB | exact Below.refl _ _ | refine bl_alloc ?_ _ | refine bl_drew ?_ | refine bl_drewN ?_ _ | (refine bl_set ?_ ?_ _; (focus dsimp only; omega)) | refine bl_call ?_ hb2))); have g2 : w.heap.size + 1 < w2.heap.size := (by omega)))
    exact bodyPost_ret (v := .tuple #[.agg #[.int .i64 n, .int .i64 d], .int .i64 0]) (by simp [results, Try.results28, go_sem, r2, r3, g2, Nat.ne_of_lt g2]) rfl ⟨n, d, rfl, ⟨HS.out, HO.out⟩, by (with_reducible repeat (first | exact hB | exact Below.refl _ _ | refine bl_alloc ?_ _ | refine bl_drew ?_ | refine bl_drewN ?_ _ | (refine bl_set ?_ ?_ _; (focus dsimp only; omega))))⟩
  · obtain ⟨k, hk⟩ : ∃ k, n / d = k := ⟨_, rfl⟩
    obtain ⟨r, hr⟩ : ∃ r, n % d = r := ⟨_, rfl⟩
    have hr0 := Int.emod_nonneg n (show d ≠ 0 by omega)
    have hr1 := Int.emod_lt_of_pos n (show 0 < d by omega)
    have he : n % d = n - d * (n / d) := Int.emod_def _ _
    rw [hk, hr] at he
    rw [hr] at hr0 hr1
    have he2 : r = n - k * d := by rw [Int.mul_comm]; exact he
    have HF := fun W => Lib.hid (floorG_any n d W (by omega) (by omega) (by omega) (by omega))
    simp only [hk] at HF
    have hgr : Int.gcd r d = 1 := by
      have : Int.gcd (r + k * d) d = Int.gcd r d := by rw [Int.gcd_add_mul_right_left]
      rw [← this, show r + k * d = n by omega]
      exact hg
    have HN := fun W => Lib.hid (nearestPart_any r d most W hr0 hr1 d2 m1 (by omega) hgr)
    have HNK : Hid (r + k * d = n) := (show r + k * d = n by omega)
    have hm1 : r + k * d ≤ 4611686018427387904 := by omega
    have hm2 : -4611686018427387904 ≤ r + k * d := by omega
    have wA : IntKind.i64.wrap (k * d) = k * d := IntWalk.i64_in _ (by omega)
    have eA : n - k * d = r := by omega
    clear hg hgr hk hr he he2
    go_enter Try.func28, Try.ntmps28
    have hB : Below w.heap.size w w := Below.refl _ _
    go_wp2_with (first
      | (go_at_call 20; ((with_reducible refine (HC _).out.mono ?_); rintro e w2 ⟨rfl, hk2⟩; have hb2 := hk2.below; have hz2 := hb2.size; (try simp only [World.size_alloc, World.size_setCell, World.size_drew, size_drewN] at hz2); have ⟨r0, r1, r2, r3⟩ : w2.cell? ⟨w.heap.size, 0, none⟩ = some (.int .i64 n) ∧ w2.cell? ⟨w.heap.size, 1, none⟩ = some (.int .i64 d) ∧ w2.cell? ⟨w.heap.size + 1, 0, none⟩ = some (.int .i64 0) ∧ w2.cell? ⟨w.heap.size + 1, 1, none⟩ = some (.int .i64 0) := (by and_intros <;> (with_reducible repeat (first | exact r0 | exact r1 | exact r2 | exact r3 | exact r4 | exact r5 | refine kc_drew ?_ | refine kc_drewN _ ?_ | refine kc_below hb2 ?_ | (refine kc_new ?_ ?_; (focus first | rfl | (simp only [World.size_alloc, World.size_setCell, World.size_drew, size_drewN]; done)); (focus first | rfl | (simp; done))) | (refine kc_set0 ?_ ?_; (focus first | rfl | (simp; done))) | exact ct_of (by assumption) | refine ct_drew ?_ | refine ct_drewN _ ?_ | refine ct_below hb2 ?_ | (refine ct_new ?_ ?_; (focus first | rfl | (simp only [World.size_alloc, World.size_setCell, World.size_drew, size_drewN]; done)); (focus first | rfl | (simp; done))) | refine ct_set _ _ ?_ | refine ct_alloc _ ?_ | (refine kc_set ?_ ?_; (focus first | (intro hx; injection hx; omega) | (simp; done))) | refine kc_alloc _ ?_))); have ⟨r4, r5⟩ : w2.frozen? ⟨w.heap.size + 1, 0, none⟩ = false ∧ w2.frozen? ⟨w.heap.size + 1, 1, none⟩ = false := (by and_intros <;> (with_reducible repeat (first | exact r0 | exact r1 | exact r2 | exact r3 | exact r4 | exact r5 | refine kf_drew ?_ | refine kf_drewN _ ?_ | (refine kf_new ?_ _; (focus first | rfl | (simp only [World.size_alloc, World.size_setCell, World.size_drew, size_drewN]; done))) | refine kf_set _ _ ?_ | (refine kf_below hb2 ?_ ?_; (focus simp only [World.size_alloc, World.size_setCell, World.size_drew, size_drewN]; omega)) | (refine kf_alloc _ ?_ ?_; (focus first | (simp only [World.size_alloc, World.size_setCell, World.size_drew, size_drewN]; omega) | (dsimp only; omega)))))); have hB : Below w.heap.size w w2 := (by (with_reducible repeat (first | exact hB | exact Below.refl _ _ | refine bl_alloc ?_ _ | refine bl_drew ?_ | refine bl_drewN ?_ _ | (refine bl_set ?_ ?_ _; (focus dsimp only; omega)) | refine bl_call ?_ hb2))); have g2 : w.heap.size + 1 < w2.heap.size := (by omega)))
      | (go_at_call 69; ((with_reducible refine (HF _).out.mono ?_); rintro e w3 ⟨rfl, hb3⟩; have hz3 := hb3.size; (try simp only [World.size_alloc, World.size_setCell, World.size_drew, size_drewN] at hz3); have ⟨r0, r1, r2, r3⟩ : w3.cell? ⟨w.heap.size, 0, none⟩ = some (.int .i64 n) ∧ w3.cell? ⟨w.heap.size, 1, none⟩ = some (.int .i64 d) ∧ w3.cell? ⟨w.heap.size + 1, 0, none⟩ = some (.int .i64 0) ∧ w3.cell? ⟨w.heap.size + 1, 1, none⟩ = some (.int .i64 0) := (by and_intros <;> (with_reducible repeat (first | exact r0 | exact r1 | exact r2 | exact r3 | exact r4 | exact r5 | refine kc_drew ?_ | refine kc_drewN _ ?_ | refine kc_below hb3 ?_ | (refine kc_new ?_ ?_; (focus first | rfl | (simp only [World.size_alloc, World.size_setCell, World.size_drew, size_drewN]; done)); (focus first | rfl | (simp; done))) | (refine kc_set0 ?_ ?_; (focus first | rfl | (simp; done))) | exact ct_of (by assumption) | refine ct_drew ?_ | refine ct_drewN _ ?_ | refine ct_below hb3 ?_ | (refine ct_new ?_ ?_; (focus first | rfl | (simp only [World.size_alloc, World.size_setCell, World.size_drew, size_drewN]; done)); (focus first | rfl | (simp; done))) | refine ct_set _ _ ?_ | refine ct_alloc _ ?_ | (refine kc_set ?_ ?_; (focus first | (intro hx; injection hx; omega) | (simp; done))) | refine kc_alloc _ ?_))); have ⟨r4, r5⟩ : w3.frozen? ⟨w.heap.size + 1, 0, none⟩ = false ∧ w3.frozen? ⟨w.heap.size + 1, 1, none⟩ = false := (by and_intros <;> (with_reducible repeat (first | exact r0 | exact r1 | exact r2 | exact r3 | exact r4 | exact r5 | refine kf_drew ?_ | refine kf_drewN _ ?_ | (refine kf_new ?_ _; (focus first | rfl | (simp only [World.size_alloc, World.size_setCell, World.size_drew, size_drewN]; done))) | refine kf_set _ _ ?_ | (refine kf_below hb3 ?_ ?_; (focus simp only [World.size_alloc, World.size_setCell, World.size_drew, size_drewN]; omega)) | (refine kf_alloc _ ?_ ?_; (focus first | (simp only [World.size_alloc, World.size_setCell, World.size_drew, size_drewN]; omega) | (dsimp only; omega)))))); have hB : Below w.heap.size w w3 := (by (with_reducible repeat (first | exact hB | exact Below.refl _ _ | refine bl_alloc ?_ _ | refine bl_drew ?_ | refine bl_drewN ?_ _ | (refine bl_set ?_ ?_ _; (focus dsimp only; omega)) | refine bl_call ?_ hb3))); have g2 : w.heap.size + 1 < w3.heap.size := (by omega)))
      | (go_at_call 70; ((with_reducible refine (HN _).out.mono ?_); rintro e w4 ⟨P, Q, rfl, HB, hb4⟩; have hz4 := hb4.size; (try simp only [World.size_alloc, World.size_setCell, World.size_drew, size_drewN] at hz4); have ⟨r0, r1, r2, r3⟩ : w4.cell? ⟨w.heap.size, 0, none⟩ = some (.int .i64 n) ∧ w4.cell? ⟨w.heap.size, 1, none⟩ = some (.int .i64 d) ∧ w4.cell? ⟨w.heap.size + 1, 0, none⟩ = some (.int .i64 0) ∧ w4.cell? ⟨w.heap.size + 1, 1, none⟩ = some (.int .i64 0) := (by and_intros <;> (with_reducible repeat (first | exact r0 | exact r1 | exact r2 | exact r3 | exact r4 | exact r5 | refine kc_drew ?_ | refine kc_drewN _ ?_ | refine kc_below hb4 ?_ | (refine kc_new ?_ ?_; (focus first | rfl | (simp only [World.size_alloc, World.size_setCell, World.size_drew, size_drewN]; done)); (focus first | rfl | (simp; done))) | (refine kc_set0 ?_ ?_; (focus first | rfl | (simp; done))) | exact ct_of (by assumption) | refine ct_drew ?_ | refine ct_drewN _ ?_ | refine ct_below hb4 ?_ | (refine ct_new ?_ ?_; (focus first | rfl | (simp only [World.size_alloc, World.size_setCell, World.size_drew, size_drewN]; done)); (focus first | rfl | (simp; done))) | refine ct_set _ _ ?_ | refine ct_alloc _ ?_ | (refine kc_set ?_ ?_; (focus first | (intro hx; injection hx; omega) | (simp; done))) | refine kc_alloc _ ?_))); have ⟨r4, r5⟩ : w4.frozen? ⟨w.heap.size + 1, 0, none⟩ = false ∧ w4.frozen? ⟨w.heap.size + 1, 1, none⟩ = false := (by and_intros <;> (with_reducible repeat (first | exact r0 | exact r1 | exact r2 | exact r3 | exact r4 | exact r5 | refine kf_drew ?_ | refine kf_drewN _ ?_ | (refine kf_new ?_ _; (focus first | rfl | (simp only [World.size_alloc, World.size_setCell, World.size_drew, size_drewN]; done))) | refine kf_set _ _ ?_ | (refine kf_below hb4 ?_ ?_; (focus simp only [World.size_alloc, World.size_setCell, World.size_drew, size_drewN]; omega)) | (refine kf_alloc _ ?_ ?_; (focus first | (simp only [World.size_alloc, World.size_setCell, World.size_drew, size_drewN]; omega) | (dsimp only; omega)))))); have hB : Below w.heap.size w w4 := (by (with_reducible repeat (first | exact hB | exact Below.refl _ _ | refine bl_alloc ?_ _ | refine bl_drew ?_ | refine bl_drewN ?_ _ | (refine bl_set ?_ ?_ _; (focus dsimp only; omega)) | refine bl_call ?_ hb4))); have g2 : w.heap.size + 1 < w4.heap.size := (by omega); obtain ⟨u1, u2, u3, u4⟩ := near_bound HB.out hr0 hr1 (by omega) hm1 hm2 d2; have q1 := HB.out.1.1; have q2 := HB.out.1.2.1; have wK : IntKind.i64.wrap (k * Q) = k * Q := IntWalk.i64_in _ (by omega); have wS : IntKind.i64.wrap (k * Q + P) = k * Q + P := IntWalk.i64_in _ (by omega))))
    have HK : Hid (NearP n d most (k * Q + P) Q ∧ okF (k * Q + P) Q) := by
      have hs := (HB.out.1).shift (k := k)
      rw [HNK.out] at hs
      exact ⟨hs, by omega, by omega, by omega, by omega, hs.2.2.1⟩
    exact bodyPost_ret (v := .tuple #[.agg #[.int .i64 (k * Q + P), .int .i64 Q], .int .i64 0]) (by simp [results, Try.results28, go_sem, r2, r3, g2, Nat.ne_of_lt g2]) rfl ⟨_, _, rfl, HK, by (with_reducible repeat (first | exact hB | exact Below.refl _ _ | refine bl_alloc ?_ _ | refine bl_drew ?_ | refine bl_drewN ?_ _ | (refine bl_set ?_ ?_ _; (focus dsimp only; omega))))⟩

set_option maxHeartbeats 2000000 in
theorem nearest_form (n d most : Int) (w : World) (hn : -9223372036854775808 ≤ n ∧ n ≤ 9223372036854775807) (hd : -9223372036854775808 ≤ d ∧ d ≤ 9223372036854775807) (ho : ¬ okF n d) :
    Calls Try.prog 28 #[.agg #[.int .i64 n, .int .i64 d], .int .i64 most] w fun v w' => v = .returned (.tuple #[.agg #[.int .i64 0, .int .i64 0], .int .i64 2]) ∧ Below w.heap.size w w' := by
  have HC := fun W => Lib.hid (check_any n d W hn.1 hn.2 hd.1 hd.2)
  rw [ckF_bad ho] at HC
  clear hn hd ho
  go_enter Try.func28, Try.ntmps28
  have hB : Below w.heap.size w w := Below.refl _ _
  go_wp2_with (go_at_call 20; ((with_reducible refine (HC _).out.mono ?_); rintro e w2 ⟨rfl, hk2⟩; have hb2 := hk2.below; have hz2 := hb2.size; (try simp only [World.size_alloc, World.size_setCell, World.size_drew, size_drewN] at hz2); have ⟨r0, r1, r2, r3⟩ : w2.cell? ⟨w.heap.size, 0, none⟩ = some (.int .i64 n) ∧ w2.cell? ⟨w.heap.size, 1, none⟩ = some (.int .i64 d) ∧ w2.cell? ⟨w.heap.size + 1, 0, none⟩ = some (.int .i64 0) ∧ w2.cell? ⟨w.heap.size + 1, 1, none⟩ = some (.int .i64 0) := (by and_intros <;> (with_reducible repeat (first | exact r0 | exact r1 | exact r2 | exact r3 | exact r4 | exact r5 | refine kc_drew ?_ | refine kc_drewN _ ?_ | refine kc_below hb2 ?_ | (refine kc_new ?_ ?_; (focus first | rfl | (simp only [World.size_alloc, World.size_setCell, World.size_drew, size_drewN]; done)); (focus first | rfl | (simp; done))) | (refine kc_set0 ?_ ?_; (focus first | rfl | (simp; done))) | exact ct_of (by assumption) | refine ct_drew ?_ | refine ct_drewN _ ?_ | refine ct_below hb2 ?_ | (refine ct_new ?_ ?_; (focus first | rfl | (simp only [World.size_alloc, World.size_setCell, World.size_drew, size_drewN]; done)); (focus first | rfl | (simp; done))) | refine ct_set _ _ ?_ | refine ct_alloc _ ?_ | (refine kc_set ?_ ?_; (focus first | (intro hx; injection hx; omega) | (simp; done))) | refine kc_alloc _ ?_))); have ⟨r4, r5⟩ : w2.frozen? ⟨w.heap.size + 1, 0, none⟩ = false ∧ w2.frozen? ⟨w.heap.size + 1, 1, none⟩ = false := (by and_intros <;> (with_reducible repeat (first | exact r0 | exact r1 | exact r2 | exact r3 | exact r4 | exact r5 | refine kf_drew ?_ | refine kf_drewN _ ?_ | (refine kf_new ?_ _; (focus first | rfl | (simp only [World.size_alloc, World.size_setCell, World.size_drew, size_drewN]; done))) | refine kf_set _ _ ?_ | (refine kf_below hb2 ?_ ?_; (focus simp only [World.size_alloc, World.size_setCell, World.size_drew, size_drewN]; omega)) | (refine kf_alloc _ ?_ ?_; (focus first | (simp only [World.size_alloc, World.size_setCell, World.size_drew, size_drewN]; omega) | (dsimp only; omega)))))); have hB : Below w.heap.size w w2 := (by (with_reducible repeat (first | exact hB | exact Below.refl _ _ | refine bl_alloc ?_ _ | refine bl_drew ?_ | refine bl_drewN ?_ _ | (refine bl_set ?_ ?_ _; (focus dsimp only; omega)) | refine bl_call ?_ hb2))); have g2 : w.heap.size + 1 < w2.heap.size := (by omega)))
  exact bodyPost_ret (v := .tuple #[.agg #[.int .i64 0, .int .i64 0], .int .i64 2]) (by simp [results, Try.results28, go_sem, r2, r3, g2, Nat.ne_of_lt g2]) rfl ⟨rfl, by (with_reducible repeat (first | exact hB | exact Below.refl _ _ | refine bl_alloc ?_ _ | refine bl_drew ?_ | refine bl_drewN ?_ _ | (refine bl_set ?_ ?_ _; (focus dsimp only; omega))))⟩

set_option maxHeartbeats 2000000 in
theorem nearest_arg (n d most : Int) (w : World) (ho : okF n d) (hm : ¬ (1 ≤ most ∧ most ≤ 4611686018427387904)) :
    Calls Try.prog 28 #[.agg #[.int .i64 n, .int .i64 d], .int .i64 most] w fun v w' => v = .returned (.tuple #[.agg #[.int .i64 0, .int .i64 0], .int .i64 1]) ∧ Below w.heap.size w w' := by
  have HO := Lib.hid ho
  obtain ⟨d1, d2, n1, n2, hg⟩ := ho
  have HC := fun W => Lib.hid (check_any n d W (by omega) (by omega) (by omega) (by omega))
  rw [show ckF n d = 0 by unfold ckF; rw [if_pos HO.out]] at HC
  clear hg
  by_cases h1 : most < 1
  · clear hm
    go_enter Try.func28, Try.ntmps28
    have hB : Below w.heap.size w w := Below.refl _ _
    go_wp2_with (go_at_call 20; ((with_reducible refine (HC _).out.mono ?_); rintro e w2 ⟨rfl, hk2⟩; have hb2 := hk2.below; have hz2 := hb2.size; (try simp only [World.size_alloc, World.size_setCell, World.size_drew, size_drewN] at hz2); have ⟨r0, r1, r2, r3⟩ : w2.cell? ⟨w.heap.size, 0, none⟩ = some (.int .i64 n) ∧ w2.cell? ⟨w.heap.size, 1, none⟩ = some (.int .i64 d) ∧ w2.cell? ⟨w.heap.size + 1, 0, none⟩ = some (.int .i64 0) ∧ w2.cell? ⟨w.heap.size + 1, 1, none⟩ = some (.int .i64 0) := (by and_intros <;> (with_reducible repeat (first | exact r0 | exact r1 | exact r2 | exact r3 | exact r4 | exact r5 | refine kc_drew ?_ | refine kc_drewN _ ?_ | refine kc_below hb2 ?_ | (refine kc_new ?_ ?_; (focus first | rfl | (simp only [World.size_alloc, World.size_setCell, World.size_drew, size_drewN]; done)); (focus first | rfl | (simp; done))) | (refine kc_set0 ?_ ?_; (focus first | rfl | (simp; done))) | exact ct_of (by assumption) | refine ct_drew ?_ | refine ct_drewN _ ?_ | refine ct_below hb2 ?_ | (refine ct_new ?_ ?_; (focus first | rfl | (simp only [World.size_alloc, World.size_setCell, World.size_drew, size_drewN]; done)); (focus first | rfl | (simp; done))) | refine ct_set _ _ ?_ | refine ct_alloc _ ?_ | (refine kc_set ?_ ?_; (focus first | (intro hx; injection hx; omega) | (simp; done))) | refine kc_alloc _ ?_))); have ⟨r4, r5⟩ : w2.frozen? ⟨w.heap.size + 1, 0, none⟩ = false ∧ w2.frozen? ⟨w.heap.size + 1, 1, none⟩ = false := (by and_intros <;> (with_reducible repeat (first | exact r0 | exact r1 | exact r2 | exact r3 | exact r4 | exact r5 | refine kf_drew ?_ | refine kf_drewN _ ?_ | (refine kf_new ?_ _; (focus first | rfl | (simp only [World.size_alloc, World.size_setCell, World.size_drew, size_drewN]; done))) | refine kf_set _ _ ?_ | (refine kf_below hb2 ?_ ?_; (focus simp only [World.size_alloc, World.size_setCell, World.size_drew, size_drewN]; omega)) | (refine kf_alloc _ ?_ ?_; (focus first | (simp only [World.size_alloc, World.size_setCell, World.size_drew, size_drewN]; omega) | (dsimp only; omega)))))); have hB : Below w.heap.size w w2 := (by (with_reducible repeat (first | exact hB | exact Below.refl _ _ | refine bl_alloc ?_ _ | refine bl_drew ?_ | refine bl_drewN ?_ _ | (refine bl_set ?_ ?_ _; (focus dsimp only; omega)) | refine bl_call ?_ hb2))); have g2 : w.heap.size + 1 < w2.heap.size := (by omega)))
    exact bodyPost_ret (v := .tuple #[.agg #[.int .i64 0, .int .i64 0], .int .i64 1]) (by simp [results, Try.results28, go_sem, r2, r3, g2, Nat.ne_of_lt g2]) rfl ⟨rfl, by (with_reducible repeat (first | exact hB | exact Below.refl _ _ | refine bl_alloc ?_ _ | refine bl_drew ?_ | refine bl_drewN ?_ _ | (refine bl_set ?_ ?_ _; (focus dsimp only; omega))))⟩
  · have h2 : 4611686018427387904 < most := by omega
    clear hm
    go_enter Try.func28, Try.ntmps28
    have hB : Below w.heap.size w w := Below.refl _ _
    go_wp2_with (go_at_call 20; ((with_reducible refine (HC _).out.mono ?_); rintro e w2 ⟨rfl, hk2⟩; have hb2 := hk2.below; have hz2 := hb2.size; (try simp only [World.size_alloc, World.size_setCell, World.size_drew, size_drewN] at hz2); have ⟨r0, r1, r2, r3⟩ : w2.cell? ⟨w.heap.size, 0, none⟩ = some (.int .i64 n) ∧ w2.cell? ⟨w.heap.size, 1, none⟩ = some (.int .i64 d) ∧ w2.cell? ⟨w.heap.size + 1, 0, none⟩ = some (.int .i64 0) ∧ w2.cell? ⟨w.heap.size + 1, 1, none⟩ = some (.int .i64 0) := (by and_intros <;> (with_reducible repeat (first | exact r0 | exact r1 | exact r2 | exact r3 | exact r4 | exact r5 | refine kc_drew ?_ | refine kc_drewN _ ?_ | refine kc_below hb2 ?_ | (refine kc_new ?_ ?_; (focus first | rfl | (simp only [World.size_alloc, World.size_setCell, World.size_drew, size_drewN]; done)); (focus first | rfl | (simp; done))) | (refine kc_set0 ?_ ?_; (focus first | rfl | (simp; done))) | exact ct_of (by assumption) | refine ct_drew ?_ | refine ct_drewN _ ?_ | refine ct_below hb2 ?_ | (refine ct_new ?_ ?_; (focus first | rfl | (simp only [World.size_alloc, World.size_setCell, World.size_drew, size_drewN]; done)); (focus first | rfl | (simp; done))) | refine ct_set _ _ ?_ | refine ct_alloc _ ?_ | (refine kc_set ?_ ?_; (focus first | (intro hx; injection hx; omega) | (simp; done))) | refine kc_alloc _ ?_))); have ⟨r4, r5⟩ : w2.frozen? ⟨w.heap.size + 1, 0, none⟩ = false ∧ w2.frozen? ⟨w.heap.size + 1, 1, none⟩ = false := (by and_intros <;> (with_reducible repeat (first | exact r0 | exact r1 | exact r2 | exact r3 | exact r4 | exact r5 | refine kf_drew ?_ | refine kf_drewN _ ?_ | (refine kf_new ?_ _; (focus first | rfl | (simp only [World.size_alloc, World.size_setCell, World.size_drew, size_drewN]; done))) | refine kf_set _ _ ?_ | (refine kf_below hb2 ?_ ?_; (focus simp only [World.size_alloc, World.size_setCell, World.size_drew, size_drewN]; omega)) | (refine kf_alloc _ ?_ ?_; (focus first | (simp only [World.size_alloc, World.size_setCell, World.size_drew, size_drewN]; omega) | (dsimp only; omega)))))); have hB : Below w.heap.size w w2 := (by (with_reducible repeat (first | exact hB | exact Below.refl _ _ | refine bl_alloc ?_ _ | refine bl_drew ?_ | refine bl_drewN ?_ _ | (refine bl_set ?_ ?_ _; (focus dsimp only; omega)) | refine bl_call ?_ hb2))); have g2 : w.heap.size + 1 < w2.heap.size := (by omega)))
    exact bodyPost_ret (v := .tuple #[.agg #[.int .i64 0, .int .i64 0], .int .i64 1]) (by simp [results, Try.results28, go_sem, r2, r3, g2, Nat.ne_of_lt g2]) rfl ⟨rfl, by (with_reducible repeat (first | exact hB | exact Below.refl _ _ | refine bl_alloc ?_ _ | refine bl_drew ?_ | refine bl_drewN ?_ _ | (refine bl_set ?_ ?_ _; (focus dsimp only; omega))))⟩
end Go.Proofs.Ytoenimkgagndnaa
