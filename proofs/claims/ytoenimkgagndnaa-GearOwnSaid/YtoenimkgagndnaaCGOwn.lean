/- GearOwn: the walk. -/
import Derived.Test.YtoenimkgagndnaaCGNear
import Derived.Test.YtoenimkgagndnaaCHeld
namespace Go.Proofs.Ytoenimkgagndnaa
set_option linter.unusedVariables false
set_option linter.unusedSimpArgs false
open Go.RowKit Go.Lib

/-- The nearest fraction is the fraction itself, if its denominator is small enough. -/
theorem own_of {n d most P Q : Int} (ho : okF n d) (hm : d ≤ most) (h : NearP n d most P Q) : P = n ∧ Q = d := by
  obtain ⟨d1, d2, n1, n2, hg⟩ := ho
  obtain ⟨q1, qm, hg', h4⟩ := h
  have h5 := (h4 n d d1 hm).1
  rw [Int.mul_comm n d, Int.sub_self] at h5
  have hz : ((n * Q - d * P).natAbs : Int) = 0 := by
    simp only [Int.natAbs_zero] at h5
    rcases (show ((n * Q - d * P).natAbs : Int) = 0 ∨ 1 ≤ ((n * Q - d * P).natAbs : Int) by omega) with h | h
    · exact h
    · have := Int.mul_le_mul_of_nonneg_right h (show 0 ≤ d by omega)
      omega
  have he : n * Q = d * P := by omega
  have hd : d ∣ Q := by
    have h2 : d.natAbs ∣ n.natAbs * Q.natAbs := by rw [← Int.natAbs_mul]; exact Int.natAbs_dvd_natAbs.2 ⟨P, he⟩
    exact Int.natAbs_dvd_natAbs.1 (Nat.Coprime.dvd_of_dvd_mul_left (by rw [Nat.coprime_comm]; exact hg) h2)
  have hq : Q ∣ d := by
    have h2 : Q.natAbs ∣ P.natAbs * d.natAbs := by rw [← Int.natAbs_mul]; exact Int.natAbs_dvd_natAbs.2 ⟨n, by rw [Int.mul_comm P d, ← he, Int.mul_comm]⟩
    exact Int.natAbs_dvd_natAbs.1 (Nat.Coprime.dvd_of_dvd_mul_left (by rw [Nat.coprime_comm]; exact hg') h2)
  have e : Q = d := by
    have a := Int.le_of_dvd (by omega) hd
    have b := Int.le_of_dvd (by omega) hq
    omega
  subst e
  refine ⟨?_, rfl⟩
  rw [Int.mul_comm n Q] at he
  exact (Int.eq_of_mul_eq_mul_left (by omega) he).symm
theorem own_same {n d P Q : Int} (ho : okF n d) (h : NearP n d d P Q) : P = n ∧ Q = d := own_of ho (Int.le_refl _) h

/-- With more denominators it comes as near. -/
theorem nearer_more {n d most more P Q P' Q' : Int} (h : NearP n d most P Q) (h' : NearP n d (most + more) P' Q') (hm : 0 ≤ more) (hd : 1 ≤ d) {A D A' D' : Int} (hA : A = ((P * d - n * Q).natAbs : Nat)) (hD : D = Q * d) (hA' : A' = ((P' * d - n * Q').natAbs : Nat)) (hD' : D' = Q' * d) :
    cmpZ (A' * D) (A * D') ≤ 0 := by
  have h1 := (h'.2.2.2 P Q h.1 (by have := h.2.1; omega)).1
  rw [show n * Q' - d * P' = -(P' * d - n * Q') by rw [Int.mul_comm d P']; omega, show n * Q - d * P = -(P * d - n * Q) by rw [Int.mul_comm d P]; omega, Int.natAbs_neg, Int.natAbs_neg, ← hA, ← hA'] at h1
  have e1 : A' * D = A' * Q * d := by rw [hD, Int.mul_assoc]
  have e2 : A * D' = A * Q' * d := by rw [hD', Int.mul_assoc]
  have h3 := Int.mul_le_mul_of_nonneg_right h1 (show 0 ≤ d by omega)
  rw [e1, e2]
  rcases cmpZ_cases' (A' * Q * d) (A * Q' * d) with ⟨c, _⟩ | ⟨c, hc⟩ | ⟨c, hc⟩ <;> omega

/-- The lowest twenty bits of an integer. -/
theorem low_bits (x : Int) : 0 ≤ bits .and .i64 x 1048575 ∧ bits .and .i64 x 1048575 ≤ 1048575 := by
  have h2 : (BitVec.ofInt 64 (1048575 : Int)).toNat = 1048575 := by decide
  have h : (BitVec.ofInt 64 x &&& BitVec.ofInt 64 1048575).toNat ≤ 1048575 := by
    rw [BitVec.toNat_and, h2]
    exact Nat.and_le_right
  show 0 ≤ IntKind.i64.wrap ((BitVec.ofInt 64 x &&& BitVec.ofInt 64 1048575).toNat : Int) ∧ IntKind.i64.wrap ((BitVec.ofInt 64 x &&& BitVec.ofInt 64 1048575).toNat : Int) ≤ 1048575
  rw [IntWalk.i64_in _ ⟨by omega, by omega⟩]
  omega

set_option maxHeartbeats 2000000 in
set_option maxRecDepth 100000 in
theorem gearOwn_bad (n d most more : Int) (w : World) (ho : ¬ okF n d) :
    Calls Try.prog 13 #[.agg #[.int .i64 n, .int .i64 d], .int .i64 most, .int .i64 more] w fun e w' => e = .returned (.bool true) ∧ Below w.heap.size w w' := by
  have HV := fun W => Lib.hid (valid_false n d W ho)
  clear ho
  go_enter Try.func13, Try.ntmps13
  have hB : Below w.heap.size w w := Below.refl _ _
  go_wp2_with (first
    | (go_at_call 22; ((with_reducible refine (HV _).out.mono ?_); rintro e w2 ⟨rfl, hb2⟩; have hz2 := hb2.size; (try simp only [World.size_alloc, World.size_setCell, World.size_drew, size_drewN] at hz2); have ⟨r0, r1⟩ : w2.cell? ⟨w.heap.size, 0, none⟩ = some (.int .i64 n) ∧ w2.cell? ⟨w.heap.size, 1, none⟩ = some (.int .i64 d) := (by and_intros <;> (with_reducible repeat (first | exact r0 | exact r1 | refine kc_drew ?_ | refine kc_drewN _ ?_ | refine kc_below hb2 ?_ | (refine kc_new ?_ ?_; (focus first | rfl | (simp only [World.size_alloc, World.size_setCell, World.size_drew, size_drewN]; done)); (focus first | rfl | (simp; done))) | (refine kc_set0 ?_ ?_; (focus first | rfl | (simp; done))) | exact ct_of (by assumption) | refine ct_drew ?_ | refine ct_drewN _ ?_ | refine ct_below hb2 ?_ | (refine ct_new ?_ ?_; (focus first | rfl | (simp only [World.size_alloc, World.size_setCell, World.size_drew, size_drewN]; done)); (focus first | rfl | (simp; done))) | refine ct_set _ _ ?_ | refine ct_alloc _ ?_ | (refine kc_set ?_ ?_; (focus first | (intro hx; injection hx; omega) | (simp; done))) | refine kc_alloc _ ?_))); have hB : Below w.heap.size w w2 := (by (with_reducible repeat (first | exact hB | exact Below.refl _ _ | refine bl_alloc ?_ _ | refine bl_drew ?_ | refine bl_drewN ?_ _ | (refine bl_set ?_ ?_ _; (focus dsimp only; omega)) | refine bl_call ?_ hb2))); have gW : w.heap.size < w2.heap.size := (by omega)))
    | (go_at_call 23; refine (lives_any _).mono ?_; rintro e w9 ⟨rfl, hb9⟩; have hz9 := hb9.size; (try simp only [World.size_alloc, World.size_setCell, World.size_drew, size_drewN] at hz9); have ⟨r0, r1⟩ : w9.cell? ⟨w.heap.size, 0, none⟩ = some (.int .i64 n) ∧ w9.cell? ⟨w.heap.size, 1, none⟩ = some (.int .i64 d) := (by and_intros <;> (with_reducible repeat (first | exact r0 | exact r1 | refine kc_drew ?_ | refine kc_drewN _ ?_ | refine kc_below hb9 ?_ | (refine kc_new ?_ ?_; (focus first | rfl | (simp only [World.size_alloc, World.size_setCell, World.size_drew, size_drewN]; done)); (focus first | rfl | (simp; done))) | (refine kc_set0 ?_ ?_; (focus first | rfl | (simp; done))) | exact ct_of (by assumption) | refine ct_drew ?_ | refine ct_drewN _ ?_ | refine ct_below hb9 ?_ | (refine ct_new ?_ ?_; (focus first | rfl | (simp only [World.size_alloc, World.size_setCell, World.size_drew, size_drewN]; done)); (focus first | rfl | (simp; done))) | refine ct_set _ _ ?_ | refine ct_alloc _ ?_ | (refine kc_set ?_ ?_; (focus first | (intro hx; injection hx; omega) | (simp; done))) | refine kc_alloc _ ?_))); have hB : Below w.heap.size w w9 := (by (with_reducible repeat (first | exact hB | exact Below.refl _ _ | refine bl_alloc ?_ _ | refine bl_drew ?_ | refine bl_drewN ?_ _ | (refine bl_set ?_ ?_ _; (focus dsimp only; omega)) | refine bl_call ?_ hb9))); have gW : w.heap.size < w9.heap.size := (by omega)))
  go_ret
  exact ⟨rfl, by (with_reducible repeat (first | exact hB | exact Below.refl _ _ | refine bl_alloc ?_ _ | refine bl_drew ?_ | refine bl_drewN ?_ _ | (refine bl_set ?_ ?_ _; (focus dsimp only; omega))))⟩

set_option maxHeartbeats 4000000 in
set_option maxRecDepth 100000 in
theorem gearOwn_good (n d most more : Int) (w : World) (ho : okF n d) :
    Calls Try.prog 13 #[.agg #[.int .i64 n, .int .i64 d], .int .i64 most, .int .i64 more] w fun e w' => e = .returned (.bool true) ∧ Below w.heap.size w w' := by
  have HOK := Lib.hid ho
  have HV := fun W => Lib.hid (valid_true n d W ho)
  obtain ⟨p1, p2⟩ := low_bits most
  obtain ⟨k1, k2⟩ := low_bits more
  obtain ⟨p, hp⟩ : ∃ p, bits .and .i64 most 1048575 = p := ⟨_, rfl⟩
  obtain ⟨k, hk⟩ : ∃ k, bits .and .i64 more 1048575 = k := ⟨_, rfl⟩
  rw [hp] at p1 p2
  rw [hk] at k1 k2
  obtain ⟨d1, d2, n1, n2⟩ := okF_bd ho
  have HN1 := fun W => Lib.hid (nearest_ok n d (p + 1) W ho (by omega) (by omega))
  have HN2 := fun W => Lib.hid (nearest_ok n d (p + 1 + k) W ho (by omega) (by omega))
  have HN3 := fun W => Lib.hid (nearest_ok n d d W ho d1 d2)
  clear ho
  go_enter Try.func13, Try.ntmps13
  have hB : Below w.heap.size w w := Below.refl _ _
  go_wp2_with (first
    | (go_at_call 22; ((with_reducible refine (HV _).out.mono ?_); rintro e w1 ⟨rfl, hb1⟩; have hz1 := hb1.size; (try simp only [World.size_alloc, World.size_setCell, World.size_drew, size_drewN] at hz1); have ⟨r0, r1⟩ : w1.cell? ⟨w.heap.size, 0, none⟩ = some (.int .i64 n) ∧ w1.cell? ⟨w.heap.size, 1, none⟩ = some (.int .i64 d) := (by and_intros <;> (with_reducible repeat (first | exact r0 | exact r1 | refine kc_drew ?_ | refine kc_drewN _ ?_ | refine kc_below hb1 ?_ | (refine kc_new ?_ ?_; (focus first | rfl | (simp only [World.size_alloc, World.size_setCell, World.size_drew, size_drewN]; done)); (focus first | rfl | (simp; done))) | (refine kc_set0 ?_ ?_; (focus first | rfl | (simp; done))) | exact ct_of (by assumption) | refine ct_drew ?_ | refine ct_drewN _ ?_ | refine ct_below hb1 ?_ | (refine ct_new ?_ ?_; (focus first | rfl | (simp only [World.size_alloc, World.size_setCell, World.size_drew, size_drewN]; done)); (focus first | rfl | (simp; done))) | refine ct_set _ _ ?_ | refine ct_alloc _ ?_ | (refine kc_set ?_ ?_; (focus first | (intro hx; injection hx; omega) | (simp; done))) | refine kc_alloc _ ?_))); have hB : Below w.heap.size w w1 := (by (with_reducible repeat (first | exact hB | exact Below.refl _ _ | refine bl_alloc ?_ _ | refine bl_drew ?_ | refine bl_drewN ?_ _ | (refine bl_set ?_ ?_ _; (focus dsimp only; omega)) | refine bl_call ?_ hb1))); have gW : w.heap.size < w1.heap.size := (by omega)))
    | (go_at_call 28; ((with_reducible refine (HN1 _).out.mono ?_); rintro e w2 ⟨P, Q, rfl, HP, hb2⟩; have hz2 := hb2.size; (try simp only [World.size_alloc, World.size_setCell, World.size_drew, size_drewN] at hz2); have ⟨r0, r1⟩ : w2.cell? ⟨w.heap.size, 0, none⟩ = some (.int .i64 n) ∧ w2.cell? ⟨w.heap.size, 1, none⟩ = some (.int .i64 d) := (by and_intros <;> (with_reducible repeat (first | exact r0 | exact r1 | refine kc_drew ?_ | refine kc_drewN _ ?_ | refine kc_below hb2 ?_ | (refine kc_new ?_ ?_; (focus first | rfl | (simp only [World.size_alloc, World.size_setCell, World.size_drew, size_drewN]; done)); (focus first | rfl | (simp; done))) | (refine kc_set0 ?_ ?_; (focus first | rfl | (simp; done))) | exact ct_of (by assumption) | refine ct_drew ?_ | refine ct_drewN _ ?_ | refine ct_below hb2 ?_ | (refine ct_new ?_ ?_; (focus first | rfl | (simp only [World.size_alloc, World.size_setCell, World.size_drew, size_drewN]; done)); (focus first | rfl | (simp; done))) | refine ct_set _ _ ?_ | refine ct_alloc _ ?_ | (refine kc_set ?_ ?_; (focus first | (intro hx; injection hx; omega) | (simp; done))) | refine kc_alloc _ ?_))); have hB : Below w.heap.size w w2 := (by (with_reducible repeat (first | exact hB | exact Below.refl _ _ | refine bl_alloc ?_ _ | refine bl_drew ?_ | refine bl_drewN ?_ _ | (refine bl_set ?_ ?_ _; (focus dsimp only; omega)) | refine bl_call ?_ hb2))); have gW : w.heap.size < w2.heap.size := (by omega); have HV1 := fun W => Lib.hid (valid_true P Q W HP.out.2)))
    | (go_at_call 28; ((with_reducible refine (HN2 _).out.mono ?_); rintro e w3 ⟨P', Q', rfl, HP', hb3⟩; have hz3 := hb3.size; (try simp only [World.size_alloc, World.size_setCell, World.size_drew, size_drewN] at hz3); have ⟨r0, r1, r2, r3⟩ : w3.cell? ⟨w.heap.size, 0, none⟩ = some (.int .i64 n) ∧ w3.cell? ⟨w.heap.size, 1, none⟩ = some (.int .i64 d) ∧ w3.cell? ⟨w2.heap.size, 0, none⟩ = some (.int .i64 P) ∧ w3.cell? ⟨w2.heap.size, 1, none⟩ = some (.int .i64 Q) := (by and_intros <;> (with_reducible repeat (first | exact r0 | exact r1 | exact r2 | exact r3 | refine kc_drew ?_ | refine kc_drewN _ ?_ | refine kc_below hb3 ?_ | (refine kc_new ?_ ?_; (focus first | rfl | (simp only [World.size_alloc, World.size_setCell, World.size_drew, size_drewN]; done)); (focus first | rfl | (simp; done))) | (refine kc_set0 ?_ ?_; (focus first | rfl | (simp; done))) | exact ct_of (by assumption) | refine ct_drew ?_ | refine ct_drewN _ ?_ | refine ct_below hb3 ?_ | (refine ct_new ?_ ?_; (focus first | rfl | (simp only [World.size_alloc, World.size_setCell, World.size_drew, size_drewN]; done)); (focus first | rfl | (simp; done))) | refine ct_set _ _ ?_ | refine ct_alloc _ ?_ | (refine kc_set ?_ ?_; (focus first | (intro hx; injection hx; omega) | (simp; done))) | refine kc_alloc _ ?_))); have hB : Below w.heap.size w w3 := (by (with_reducible repeat (first | exact hB | exact Below.refl _ _ | refine bl_alloc ?_ _ | refine bl_drew ?_ | refine bl_drewN ?_ _ | (refine bl_set ?_ ?_ _; (focus dsimp only; omega)) | refine bl_call ?_ hb3))); have gW : w.heap.size < w3.heap.size := (by omega); have gA : w2.heap.size < w3.heap.size := (World.block_lt_of_cell? _ _ r2); have HV2 := fun W => Lib.hid (valid_true P' Q' W HP'.out.2)))
    | (go_at_call 28; ((with_reducible refine (HN3 _).out.mono ?_); rintro e w4 ⟨P2, Q2, rfl, HP2, hb4⟩; obtain ⟨eP, eQ⟩ := own_same HOK.out HP2.out.1; obtain rfl := eP.symm; obtain rfl := eQ.symm; have hz4 := hb4.size; (try simp only [World.size_alloc, World.size_setCell, World.size_drew, size_drewN] at hz4); have ⟨r0, r1, r2, r3, r4, r5⟩ : w4.cell? ⟨w.heap.size, 0, none⟩ = some (.int .i64 n) ∧ w4.cell? ⟨w.heap.size, 1, none⟩ = some (.int .i64 d) ∧ w4.cell? ⟨w2.heap.size, 0, none⟩ = some (.int .i64 P) ∧ w4.cell? ⟨w2.heap.size, 1, none⟩ = some (.int .i64 Q) ∧ w4.cell? ⟨w3.heap.size, 0, none⟩ = some (.int .i64 P') ∧ w4.cell? ⟨w3.heap.size, 1, none⟩ = some (.int .i64 Q') := (by and_intros <;> (with_reducible repeat (first | exact r0 | exact r1 | exact r2 | exact r3 | exact r4 | exact r5 | refine kc_drew ?_ | refine kc_drewN _ ?_ | refine kc_below hb4 ?_ | (refine kc_new ?_ ?_; (focus first | rfl | (simp only [World.size_alloc, World.size_setCell, World.size_drew, size_drewN]; done)); (focus first | rfl | (simp; done))) | (refine kc_set0 ?_ ?_; (focus first | rfl | (simp; done))) | exact ct_of (by assumption) | refine ct_drew ?_ | refine ct_drewN _ ?_ | refine ct_below hb4 ?_ | (refine ct_new ?_ ?_; (focus first | rfl | (simp only [World.size_alloc, World.size_setCell, World.size_drew, size_drewN]; done)); (focus first | rfl | (simp; done))) | refine ct_set _ _ ?_ | refine ct_alloc _ ?_ | (refine kc_set ?_ ?_; (focus first | (intro hx; injection hx; omega) | (simp; done))) | refine kc_alloc _ ?_))); have hB : Below w.heap.size w w4 := (by (with_reducible repeat (first | exact hB | exact Below.refl _ _ | refine bl_alloc ?_ _ | refine bl_drew ?_ | refine bl_drewN ?_ _ | (refine bl_set ?_ ?_ _; (focus dsimp only; omega)) | refine bl_call ?_ hb4))); have gW : w.heap.size < w4.heap.size := (by omega); have gA : w2.heap.size < w4.heap.size := (World.block_lt_of_cell? _ _ r2); have gB : w3.heap.size < w4.heap.size := (World.block_lt_of_cell? _ _ r4)))
    | (go_at_call 22; ((with_reducible refine (HV1 _).out.mono ?_); rintro e w5 ⟨rfl, hb5⟩; have hz5 := hb5.size; (try simp only [World.size_alloc, World.size_setCell, World.size_drew, size_drewN] at hz5); have ⟨r0, r1, r2, r3, r4, r5, r6, r7⟩ : w5.cell? ⟨w.heap.size, 0, none⟩ = some (.int .i64 n) ∧ w5.cell? ⟨w.heap.size, 1, none⟩ = some (.int .i64 d) ∧ w5.cell? ⟨w2.heap.size, 0, none⟩ = some (.int .i64 P) ∧ w5.cell? ⟨w2.heap.size, 1, none⟩ = some (.int .i64 Q) ∧ w5.cell? ⟨w3.heap.size, 0, none⟩ = some (.int .i64 P') ∧ w5.cell? ⟨w3.heap.size, 1, none⟩ = some (.int .i64 Q') ∧ w5.cell? ⟨w4.heap.size, 0, none⟩ = some (.int .i64 n) ∧ w5.cell? ⟨w4.heap.size, 1, none⟩ = some (.int .i64 d) := (by and_intros <;> (with_reducible repeat (first | exact r0 | exact r1 | exact r2 | exact r3 | exact r4 | exact r5 | exact r6 | exact r7 | refine kc_drew ?_ | refine kc_drewN _ ?_ | refine kc_below hb5 ?_ | (refine kc_new ?_ ?_; (focus first | rfl | (simp only [World.size_alloc, World.size_setCell, World.size_drew, size_drewN]; done)); (focus first | rfl | (simp; done))) | (refine kc_set0 ?_ ?_; (focus first | rfl | (simp; done))) | exact ct_of (by assumption) | refine ct_drew ?_ | refine ct_drewN _ ?_ | refine ct_below hb5 ?_ | (refine ct_new ?_ ?_; (focus first | rfl | (simp only [World.size_alloc, World.size_setCell, World.size_drew, size_drewN]; done)); (focus first | rfl | (simp; done))) | refine ct_set _ _ ?_ | refine ct_alloc _ ?_ | (refine kc_set ?_ ?_; (focus first | (intro hx; injection hx; omega) | (simp; done))) | refine kc_alloc _ ?_))); have hB : Below w.heap.size w w5 := (by (with_reducible repeat (first | exact hB | exact Below.refl _ _ | refine bl_alloc ?_ _ | refine bl_drew ?_ | refine bl_drewN ?_ _ | (refine bl_set ?_ ?_ _; (focus dsimp only; omega)) | refine bl_call ?_ hb5))); have gW : w.heap.size < w5.heap.size := (by omega); have gA : w2.heap.size < w5.heap.size := (World.block_lt_of_cell? _ _ r2); have gB : w3.heap.size < w5.heap.size := (World.block_lt_of_cell? _ _ r4); have gC : w4.heap.size < w5.heap.size := (World.block_lt_of_cell? _ _ r6)))
    | (go_at_call 22; ((with_reducible refine (HV2 _).out.mono ?_); rintro e w6 ⟨rfl, hb6⟩; have hz6 := hb6.size; (try simp only [World.size_alloc, World.size_setCell, World.size_drew, size_drewN] at hz6); have ⟨r0, r1, r2, r3, r4, r5, r6, r7⟩ : w6.cell? ⟨w.heap.size, 0, none⟩ = some (.int .i64 n) ∧ w6.cell? ⟨w.heap.size, 1, none⟩ = some (.int .i64 d) ∧ w6.cell? ⟨w2.heap.size, 0, none⟩ = some (.int .i64 P) ∧ w6.cell? ⟨w2.heap.size, 1, none⟩ = some (.int .i64 Q) ∧ w6.cell? ⟨w3.heap.size, 0, none⟩ = some (.int .i64 P') ∧ w6.cell? ⟨w3.heap.size, 1, none⟩ = some (.int .i64 Q') ∧ w6.cell? ⟨w4.heap.size, 0, none⟩ = some (.int .i64 n) ∧ w6.cell? ⟨w4.heap.size, 1, none⟩ = some (.int .i64 d) := (by and_intros <;> (with_reducible repeat (first | exact r0 | exact r1 | exact r2 | exact r3 | exact r4 | exact r5 | exact r6 | exact r7 | refine kc_drew ?_ | refine kc_drewN _ ?_ | refine kc_below hb6 ?_ | (refine kc_new ?_ ?_; (focus first | rfl | (simp only [World.size_alloc, World.size_setCell, World.size_drew, size_drewN]; done)); (focus first | rfl | (simp; done))) | (refine kc_set0 ?_ ?_; (focus first | rfl | (simp; done))) | exact ct_of (by assumption) | refine ct_drew ?_ | refine ct_drewN _ ?_ | refine ct_below hb6 ?_ | (refine ct_new ?_ ?_; (focus first | rfl | (simp only [World.size_alloc, World.size_setCell, World.size_drew, size_drewN]; done)); (focus first | rfl | (simp; done))) | refine ct_set _ _ ?_ | refine ct_alloc _ ?_ | (refine kc_set ?_ ?_; (focus first | (intro hx; injection hx; omega) | (simp; done))) | refine kc_alloc _ ?_))); have hB : Below w.heap.size w w6 := (by (with_reducible repeat (first | exact hB | exact Below.refl _ _ | refine bl_alloc ?_ _ | refine bl_drew ?_ | refine bl_drewN ?_ _ | (refine bl_set ?_ ?_ _; (focus dsimp only; omega)) | refine bl_call ?_ hb6))); have gW : w.heap.size < w6.heap.size := (by omega); have gA : w2.heap.size < w6.heap.size := (World.block_lt_of_cell? _ _ r2); have gB : w3.heap.size < w6.heap.size := (World.block_lt_of_cell? _ _ r4); have gC : w4.heap.size < w6.heap.size := (World.block_lt_of_cell? _ _ r6)))
    | (go_at_call 23; refine (lives_any _).mono ?_; rintro e w9 ⟨rfl, hb9⟩; have hz9 := hb9.size; (try simp only [World.size_alloc, World.size_setCell, World.size_drew, size_drewN] at hz9); have ⟨r0, r1, r2, r3, r4, r5, r6, r7⟩ : w9.cell? ⟨w.heap.size, 0, none⟩ = some (.int .i64 n) ∧ w9.cell? ⟨w.heap.size, 1, none⟩ = some (.int .i64 d) ∧ w9.cell? ⟨w2.heap.size, 0, none⟩ = some (.int .i64 P) ∧ w9.cell? ⟨w2.heap.size, 1, none⟩ = some (.int .i64 Q) ∧ w9.cell? ⟨w3.heap.size, 0, none⟩ = some (.int .i64 P') ∧ w9.cell? ⟨w3.heap.size, 1, none⟩ = some (.int .i64 Q') ∧ w9.cell? ⟨w4.heap.size, 0, none⟩ = some (.int .i64 n) ∧ w9.cell? ⟨w4.heap.size, 1, none⟩ = some (.int .i64 d) := (by and_intros <;> (with_reducible repeat (first | exact r0 | exact r1 | exact r2 | exact r3 | exact r4 | exact r5 | exact r6 | exact r7 | refine kc_drew ?_ | refine kc_drewN _ ?_ | refine kc_below hb9 ?_ | (refine kc_new ?_ ?_; (focus first | rfl | (simp only [World.size_alloc, World.size_setCell, World.size_drew, size_drewN]; done)); (focus first | rfl | (simp; done))) | (refine kc_set0 ?_ ?_; (focus first | rfl | (simp; done))) | exact ct_of (by assumption) | refine ct_drew ?_ | refine ct_drewN _ ?_ | refine ct_below hb9 ?_ | (refine ct_new ?_ ?_; (focus first | rfl | (simp only [World.size_alloc, World.size_setCell, World.size_drew, size_drewN]; done)); (focus first | rfl | (simp; done))) | refine ct_set _ _ ?_ | refine ct_alloc _ ?_ | (refine kc_set ?_ ?_; (focus first | (intro hx; injection hx; omega) | (simp; done))) | refine kc_alloc _ ?_))); have hB : Below w.heap.size w w9 := (by (with_reducible repeat (first | exact hB | exact Below.refl _ _ | refine bl_alloc ?_ _ | refine bl_drew ?_ | refine bl_drewN ?_ _ | (refine bl_set ?_ ?_ _; (focus dsimp only; omega)) | refine bl_call ?_ hb9))); have gW : w.heap.size < w9.heap.size := (by omega); have gA : w2.heap.size < w9.heap.size := (World.block_lt_of_cell? _ _ r2); have gB : w3.heap.size < w9.heap.size := (World.block_lt_of_cell? _ _ r4); have gC : w4.heap.size < w9.heap.size := (World.block_lt_of_cell? _ _ r6)))
  obtain ⟨Q1, Q2, P1, P2⟩ := okF_bd HP.out.2
  obtain ⟨Q1', Q2', P1', P2'⟩ := okF_bd HP'.out.2
  have HO1 := fun W => Lib.hid (off_any P Q n d W ⟨by omega, by omega⟩ ⟨by omega, by omega⟩ ⟨by omega, by omega⟩ ⟨by omega, by omega⟩)
  have HO2 := fun W => Lib.hid (off_any P' Q' n d W ⟨by omega, by omega⟩ ⟨by omega, by omega⟩ ⟨by omega, by omega⟩ ⟨by omega, by omega⟩)
  obtain ⟨A, hA⟩ : ∃ A : Int, A = ((P * d - n * Q).natAbs : Nat) := ⟨_, rfl⟩
  obtain ⟨D, hD⟩ : ∃ D : Int, D = Q * d := ⟨_, rfl⟩
  obtain ⟨A', hA'⟩ : ∃ A : Int, A = ((P' * d - n * Q').natAbs : Nat) := ⟨_, rfl⟩
  obtain ⟨D', hD'⟩ : ∃ D : Int, D = Q' * d := ⟨_, rfl⟩
  have KEY := nearer_more HP.out.1 HP'.out.1 k1 d1 hA hD hA' hD'
  have KOWN : Hid (d ≤ p + 1 → P = n ∧ Q = d) := fun h => own_of HOK.out h HP.out.1
  have T1 := ten_digits P1 P2 d1 d2 n1 n2 Q1 Q2
  have T2 := ten_digits P1' P2' d1 d2 n1 n2 Q1' Q2'
  rw [Int.mul_comm d Q] at T1
  rw [Int.mul_comm d Q'] at T2
  simp only [← hA, ← hD] at HO1 T1
  simp only [← hA', ← hD'] at HO2 T2
  have LA := Lib.hid T1.1
  have LD := Lib.hid T1.2
  have LA' := Lib.hid T2.1
  have LD' := Lib.hid T2.2
  clear hA hD hA' hD' T1 T2 HP HP'
  have HCQ := fun s t s' t' a b a' b' n c m e n' c' m' e' W h1 h2 h3 h4 k1 k2 k3 k4 => Lib.hid (@cmpQ_any s t s' t' a b a' b' n c m e n' c' m' e' A' D' A D W 0 0 0 0 h1 h2 h3 h4 k1 k2 k3 k4)
  generalize hc : cmpZ (A' * D) (A * D') = c at *
  clear hc
  have hc0 : decide (c ≤ 0) = true := decide_eq_true KEY
  by_cases hd : p + 1 < d
  · have hdd : decide (p + 1 < d) = true := decide_eq_true hd
    refine wp_region_noPanic ?_
    refine wp_region_held_drew (S := (fun w' => (w'.cell? ⟨w.heap.size, 0, none⟩ = some (.int .i64 n) ∧ w'.cell? ⟨w.heap.size, 1, none⟩ = some (.int .i64 d)) ∧ (w'.cell? ⟨w2.heap.size, 0, none⟩ = some (.int .i64 P) ∧ w'.cell? ⟨w2.heap.size, 1, none⟩ = some (.int .i64 Q)) ∧ w'.cell? ⟨w3.heap.size, 0, none⟩ = some (.int .i64 P') ∧ w'.cell? ⟨w3.heap.size, 1, none⟩ = some (.int .i64 Q'))) (by kernel_rfl) ?_ (fun hHeld => ?_)
    · ((((try dsimp only); (repeat' apply And.intro)) <;> (with_reducible repeat (first | exact r0 | exact r1 | exact r2 | exact r3 | exact r4 | exact r5 | refine kc_drew ?_ | refine kc_drewN _ ?_ | refine kc_below hb12 ?_ | refine kc_below hb11 ?_ | refine kc_below hb10 ?_ | (refine kc_new ?_ ?_; (focus first | rfl | (simp only [World.size_alloc, World.size_setCell, World.size_drew, size_drewN]; done)); (focus first | rfl | (simp; done))) | (refine kc_set0 ?_ ?_; (focus first | rfl | (simp; done))) | exact ct_of (by assumption) | refine ct_drew ?_ | refine ct_drewN _ ?_ | refine ct_below hb12 ?_ | refine ct_below hb11 ?_ | refine ct_below hb10 ?_ | (refine ct_new ?_ ?_; (focus first | rfl | (simp only [World.size_alloc, World.size_setCell, World.size_drew, size_drewN]; done)); (focus first | rfl | (simp; done))) | refine ct_set _ _ ?_ | refine ct_alloc _ ?_ | (refine kc_set ?_ ?_; (focus first | (intro hx; injection hx; omega) | (simp; done))) | refine kc_alloc _ ?_))))
    refine takeH 0 ?_ rfl (by kernel_rfl) (by kernel_rfl) (by kernel_rfl) (fun _ _ _ h => h) ?_ (by rfl) (by assumption) ?_
    rotate_left
    · (intro w hSw; (try dsimp only at hSw); (first | (go_simp; done) | (go_simp; with_reducible rfl)))
    (try simp only [Act.put, List.setIfInBounds_toArray, List.set_cons_zero, List.set_cons_succ])
    refine takeH 1 ?_ rfl (by kernel_rfl) (by kernel_rfl) (by kernel_rfl) (fun _ _ _ h => h) ?_ (by rfl) (by assumption) ?_
    rotate_left
    · (intro w hSw; (try dsimp only at hSw); (first | (go_simp; done) | (go_simp; with_reducible rfl)))
    (try simp only [Act.put, List.setIfInBounds_toArray, List.set_cons_zero, List.set_cons_succ])
    refine takeH 3 ?_ rfl (by kernel_rfl) (by kernel_rfl) (by kernel_rfl) (fun _ _ _ h => h) ?_ (by rfl) (by assumption) ?_
    rotate_left
    · (intro w hSw; (try dsimp only at hSw); (first | (go_simp; done) | (go_simp; with_reducible rfl)))
    (try simp only [Act.put, List.setIfInBounds_toArray, List.set_cons_zero, List.set_cons_succ])
    refine takeH 4 ?_ rfl (by kernel_rfl) (by kernel_rfl) (by kernel_rfl) (fun _ _ _ h => h) ?_ (by rfl) (by assumption) ?_
    rotate_left
    · (intro w hSw; (try dsimp only at hSw); (first | (go_simp; done) | (go_simp; with_reducible rfl)))
    (try simp only [Act.put, List.setIfInBounds_toArray, List.set_cons_zero, List.set_cons_succ])
    refine wpAnyH_ready (rs := [2]) (by kernel_rfl) (by simp) ?_
    refine consH 2 rfl (fun K hK => ?_) ?_
    · (go_simp; (go_at_call_of 47 (Value.agg #[Value.int IntKind.i64 P', Value.int IntKind.i64 Q']); ((with_reducible refine (HO2 _).out.mono ?_); rintro e w10 ⟨s10, a10, n10, c10, t10, b10, m10, e10, rfl, H10, H10d, hb10⟩; have hn10 : n10 ≤ 10 := (H10.out.len LA'.out); have hm10 : m10 ≤ 10 := (H10d.out.len LD'.out); have Z10 : Hid (∀ W, Below w10.heap.size w10 W → Zat 0 W s10 a10 n10 c10 A' ∧ Zat 0 W t10 b10 m10 e10 D') := (fun W hW => ⟨(H10.out.mono (Nat.zero_le _)).below hW, (H10d.out.mono (Nat.zero_le _)).below hW⟩); clear H10 H10d; have hz10 := hb10.size; (try simp only [World.size_alloc, World.size_setCell, World.size_drew, size_drewN] at hz10); have ⟨r0, r1, r2, r3, r4, r5, r6, r7⟩ : w10.cell? ⟨w.heap.size, 0, none⟩ = some (.int .i64 n) ∧ w10.cell? ⟨w.heap.size, 1, none⟩ = some (.int .i64 d) ∧ w10.cell? ⟨w2.heap.size, 0, none⟩ = some (.int .i64 P) ∧ w10.cell? ⟨w2.heap.size, 1, none⟩ = some (.int .i64 Q) ∧ w10.cell? ⟨w3.heap.size, 0, none⟩ = some (.int .i64 P') ∧ w10.cell? ⟨w3.heap.size, 1, none⟩ = some (.int .i64 Q') ∧ w10.cell? ⟨w4.heap.size, 0, none⟩ = some (.int .i64 n) ∧ w10.cell? ⟨w4.heap.size, 1, none⟩ = some (.int .i64 d) := (by and_intros <;> (with_reducible repeat (first | exact r0 | exact r1 | exact r2 | exact r3 | exact r4 | exact r5 | exact r6 | exact r7 | refine kc_drew ?_ | refine kc_drewN _ ?_ | refine kc_below hb10 ?_ | (refine kc_new ?_ ?_; (focus first | rfl | (simp only [World.size_alloc, World.size_setCell, World.size_drew, size_drewN]; done)); (focus first | rfl | (simp; done))) | (refine kc_set0 ?_ ?_; (focus first | rfl | (simp; done))) | exact ct_of (by assumption) | refine ct_drew ?_ | refine ct_drewN _ ?_ | refine ct_below hb10 ?_ | (refine ct_new ?_ ?_; (focus first | rfl | (simp only [World.size_alloc, World.size_setCell, World.size_drew, size_drewN]; done)); (focus first | rfl | (simp; done))) | refine ct_set _ _ ?_ | refine ct_alloc _ ?_ | (refine kc_set ?_ ?_; (focus first | (intro hx; injection hx; omega) | (simp; done))) | refine kc_alloc _ ?_))); have hB : Below w.heap.size w w10 := (by (with_reducible repeat (first | exact hB | exact Below.refl _ _ | refine bl_alloc ?_ _ | refine bl_drew ?_ | refine bl_drewN ?_ _ | (refine bl_set ?_ ?_ _; (focus dsimp only; omega)) | refine bl_call ?_ hb10))); have gW : w.heap.size < w10.heap.size := (by omega); have gA : w2.heap.size < w10.heap.size := (World.block_lt_of_cell? _ _ r2); have gB : w3.heap.size < w10.heap.size := (World.block_lt_of_cell? _ _ r4); have gC : w4.heap.size < w10.heap.size := (World.block_lt_of_cell? _ _ r6))))
      refine hK.out _ _ ?_ (fun hHeld => ?_)
      · ((((try dsimp only); (repeat' apply And.intro)) <;> (with_reducible repeat (first | exact r0 | exact r1 | exact r2 | exact r3 | exact r4 | exact r5 | refine kc_drew ?_ | refine kc_drewN _ ?_ | refine kc_below hb12 ?_ | refine kc_below hb11 ?_ | refine kc_below hb10 ?_ | (refine kc_new ?_ ?_; (focus first | rfl | (simp only [World.size_alloc, World.size_setCell, World.size_drew, size_drewN]; done)); (focus first | rfl | (simp; done))) | (refine kc_set0 ?_ ?_; (focus first | rfl | (simp; done))) | exact ct_of (by assumption) | refine ct_drew ?_ | refine ct_drewN _ ?_ | refine ct_below hb12 ?_ | refine ct_below hb11 ?_ | refine ct_below hb10 ?_ | (refine ct_new ?_ ?_; (focus first | rfl | (simp only [World.size_alloc, World.size_setCell, World.size_drew, size_drewN]; done)); (focus first | rfl | (simp; done))) | refine ct_set _ _ ?_ | refine ct_alloc _ ?_ | (refine kc_set ?_ ?_; (focus first | (intro hx; injection hx; omega) | (simp; done))) | refine kc_alloc _ ?_))))
      clear hK K
      (try simp only [Act.put, List.setIfInBounds_toArray, List.set_cons_zero, List.set_cons_succ])
      refine wpAnyH_ready (rs := [5]) (by kernel_rfl) (by simp) ?_
      refine consH 5 rfl (fun K hK => ?_) ?_
      · (go_simp; (go_at_call_of 47 (Value.agg #[Value.int IntKind.i64 P, Value.int IntKind.i64 Q]); ((with_reducible refine (HO1 _).out.mono ?_); rintro e w11 ⟨s11, a11, n11, c11, t11, b11, m11, e11, rfl, H11, H11d, hb11⟩; have hn11 : n11 ≤ 10 := (H11.out.len LA.out); have hm11 : m11 ≤ 10 := (H11d.out.len LD.out); have Z11 : Hid (∀ W, Below w11.heap.size w11 W → Zat 0 W s11 a11 n11 c11 A ∧ Zat 0 W t11 b11 m11 e11 D) := (fun W hW => ⟨(H11.out.mono (Nat.zero_le _)).below hW, (H11d.out.mono (Nat.zero_le _)).below hW⟩); clear H11 H11d; have hz11 := hb11.size; (try simp only [World.size_alloc, World.size_setCell, World.size_drew, size_drewN] at hz11); have ⟨r0, r1, r2, r3, r4, r5, r6, r7⟩ : w11.cell? ⟨w.heap.size, 0, none⟩ = some (.int .i64 n) ∧ w11.cell? ⟨w.heap.size, 1, none⟩ = some (.int .i64 d) ∧ w11.cell? ⟨w2.heap.size, 0, none⟩ = some (.int .i64 P) ∧ w11.cell? ⟨w2.heap.size, 1, none⟩ = some (.int .i64 Q) ∧ w11.cell? ⟨w3.heap.size, 0, none⟩ = some (.int .i64 P') ∧ w11.cell? ⟨w3.heap.size, 1, none⟩ = some (.int .i64 Q') ∧ w11.cell? ⟨w4.heap.size, 0, none⟩ = some (.int .i64 n) ∧ w11.cell? ⟨w4.heap.size, 1, none⟩ = some (.int .i64 d) := (by and_intros <;> (with_reducible repeat (first | exact r0 | exact r1 | exact r2 | exact r3 | exact r4 | exact r5 | exact r6 | exact r7 | refine kc_drew ?_ | refine kc_drewN _ ?_ | refine kc_below hb11 ?_ | (refine kc_new ?_ ?_; (focus first | rfl | (simp only [World.size_alloc, World.size_setCell, World.size_drew, size_drewN]; done)); (focus first | rfl | (simp; done))) | (refine kc_set0 ?_ ?_; (focus first | rfl | (simp; done))) | exact ct_of (by assumption) | refine ct_drew ?_ | refine ct_drewN _ ?_ | refine ct_below hb11 ?_ | (refine ct_new ?_ ?_; (focus first | rfl | (simp only [World.size_alloc, World.size_setCell, World.size_drew, size_drewN]; done)); (focus first | rfl | (simp; done))) | refine ct_set _ _ ?_ | refine ct_alloc _ ?_ | (refine kc_set ?_ ?_; (focus first | (intro hx; injection hx; omega) | (simp; done))) | refine kc_alloc _ ?_))); have hB : Below w.heap.size w w11 := (by (with_reducible repeat (first | exact hB | exact Below.refl _ _ | refine bl_alloc ?_ _ | refine bl_drew ?_ | refine bl_drewN ?_ _ | (refine bl_set ?_ ?_ _; (focus dsimp only; omega)) | refine bl_call ?_ hb11))); have gW : w.heap.size < w11.heap.size := (by omega); have gA : w2.heap.size < w11.heap.size := (World.block_lt_of_cell? _ _ r2); have gB : w3.heap.size < w11.heap.size := (World.block_lt_of_cell? _ _ r4); have gC : w4.heap.size < w11.heap.size := (World.block_lt_of_cell? _ _ r6))))
        refine hK.out _ _ ?_ (fun hHeld => ?_)
        · ((((try dsimp only); (repeat' apply And.intro)) <;> (with_reducible repeat (first | exact r0 | exact r1 | exact r2 | exact r3 | exact r4 | exact r5 | refine kc_drew ?_ | refine kc_drewN _ ?_ | refine kc_below hb12 ?_ | refine kc_below hb11 ?_ | refine kc_below hb10 ?_ | (refine kc_new ?_ ?_; (focus first | rfl | (simp only [World.size_alloc, World.size_setCell, World.size_drew, size_drewN]; done)); (focus first | rfl | (simp; done))) | (refine kc_set0 ?_ ?_; (focus first | rfl | (simp; done))) | exact ct_of (by assumption) | refine ct_drew ?_ | refine ct_drewN _ ?_ | refine ct_below hb12 ?_ | refine ct_below hb11 ?_ | refine ct_below hb10 ?_ | (refine ct_new ?_ ?_; (focus first | rfl | (simp only [World.size_alloc, World.size_setCell, World.size_drew, size_drewN]; done)); (focus first | rfl | (simp; done))) | refine ct_set _ _ ?_ | refine ct_alloc _ ?_ | (refine kc_set ?_ ?_; (focus first | (intro hx; injection hx; omega) | (simp; done))) | refine kc_alloc _ ?_))))
        clear hK K
        (try simp only [Act.put, List.setIfInBounds_toArray, List.set_cons_zero, List.set_cons_succ])
        refine wpAnyH_ready (rs := [6]) (by kernel_rfl) (by simp) ?_
        refine consH 6 rfl (fun K hK => ?_) ?_
        · (go_simp; (go_at_call 25; ((with_reducible refine (HCQ _ _ _ _ _ _ _ _ _ _ _ _ _ _ _ _ _ (Z10.out _ (by (with_reducible repeat (first | exact Below.refl _ _ | refine bl_alloc ?_ _ | refine bl_drew ?_ | refine bl_drewN ?_ _ | (refine bl_set ?_ ?_ _; (focus dsimp only; omega)) | refine bl_call ?_ hb11 | refine bl_call ?_ hb10)))).1 (Z10.out _ (by (with_reducible repeat (first | exact Below.refl _ _ | refine bl_alloc ?_ _ | refine bl_drew ?_ | refine bl_drewN ?_ _ | (refine bl_set ?_ ?_ _; (focus dsimp only; omega)) | refine bl_call ?_ hb11 | refine bl_call ?_ hb10)))).2 (Z11.out _ (by (with_reducible repeat (first | exact Below.refl _ _ | refine bl_alloc ?_ _ | refine bl_drew ?_ | refine bl_drewN ?_ _ | (refine bl_set ?_ ?_ _; (focus dsimp only; omega)) | refine bl_call ?_ hb11 | refine bl_call ?_ hb10)))).1 (Z11.out _ (by (with_reducible repeat (first | exact Below.refl _ _ | refine bl_alloc ?_ _ | refine bl_drew ?_ | refine bl_drewN ?_ _ | (refine bl_set ?_ ?_ _; (focus dsimp only; omega)) | refine bl_call ?_ hb11 | refine bl_call ?_ hb10)))).2 (by omega) (by omega) (by omega) (by omega)).out.mono ?_); rintro e w12 ⟨rfl, hb12⟩; have hz12 := hb12.size; (try simp only [World.size_alloc, World.size_setCell, World.size_drew, size_drewN] at hz12); have ⟨r0, r1, r2, r3, r4, r5, r6, r7⟩ : w12.cell? ⟨w.heap.size, 0, none⟩ = some (.int .i64 n) ∧ w12.cell? ⟨w.heap.size, 1, none⟩ = some (.int .i64 d) ∧ w12.cell? ⟨w2.heap.size, 0, none⟩ = some (.int .i64 P) ∧ w12.cell? ⟨w2.heap.size, 1, none⟩ = some (.int .i64 Q) ∧ w12.cell? ⟨w3.heap.size, 0, none⟩ = some (.int .i64 P') ∧ w12.cell? ⟨w3.heap.size, 1, none⟩ = some (.int .i64 Q') ∧ w12.cell? ⟨w4.heap.size, 0, none⟩ = some (.int .i64 n) ∧ w12.cell? ⟨w4.heap.size, 1, none⟩ = some (.int .i64 d) := (by and_intros <;> (with_reducible repeat (first | exact r0 | exact r1 | exact r2 | exact r3 | exact r4 | exact r5 | exact r6 | exact r7 | refine kc_drew ?_ | refine kc_drewN _ ?_ | refine kc_below hb12 ?_ | (refine kc_new ?_ ?_; (focus first | rfl | (simp only [World.size_alloc, World.size_setCell, World.size_drew, size_drewN]; done)); (focus first | rfl | (simp; done))) | (refine kc_set0 ?_ ?_; (focus first | rfl | (simp; done))) | exact ct_of (by assumption) | refine ct_drew ?_ | refine ct_drewN _ ?_ | refine ct_below hb12 ?_ | (refine ct_new ?_ ?_; (focus first | rfl | (simp only [World.size_alloc, World.size_setCell, World.size_drew, size_drewN]; done)); (focus first | rfl | (simp; done))) | refine ct_set _ _ ?_ | refine ct_alloc _ ?_ | (refine kc_set ?_ ?_; (focus first | (intro hx; injection hx; omega) | (simp; done))) | refine kc_alloc _ ?_))); have hB : Below w.heap.size w w12 := (by (with_reducible repeat (first | exact hB | exact Below.refl _ _ | refine bl_alloc ?_ _ | refine bl_drew ?_ | refine bl_drewN ?_ _ | (refine bl_set ?_ ?_ _; (focus dsimp only; omega)) | refine bl_call ?_ hb12))); have gW : w.heap.size < w12.heap.size := (by omega); have gA : w2.heap.size < w12.heap.size := (World.block_lt_of_cell? _ _ r2); have gB : w3.heap.size < w12.heap.size := (World.block_lt_of_cell? _ _ r4); have gC : w4.heap.size < w12.heap.size := (World.block_lt_of_cell? _ _ r6))))
          refine hK.out _ _ ?_ (fun hHeld => ?_)
          · ((((try dsimp only); (repeat' apply And.intro)) <;> (with_reducible repeat (first | exact r0 | exact r1 | exact r2 | exact r3 | exact r4 | exact r5 | refine kc_drew ?_ | refine kc_drewN _ ?_ | refine kc_below hb12 ?_ | refine kc_below hb11 ?_ | refine kc_below hb10 ?_ | (refine kc_new ?_ ?_; (focus first | rfl | (simp only [World.size_alloc, World.size_setCell, World.size_drew, size_drewN]; done)); (focus first | rfl | (simp; done))) | (refine kc_set0 ?_ ?_; (focus first | rfl | (simp; done))) | exact ct_of (by assumption) | refine ct_drew ?_ | refine ct_drewN _ ?_ | refine ct_below hb12 ?_ | refine ct_below hb11 ?_ | refine ct_below hb10 ?_ | (refine ct_new ?_ ?_; (focus first | rfl | (simp only [World.size_alloc, World.size_setCell, World.size_drew, size_drewN]; done)); (focus first | rfl | (simp; done))) | refine ct_set _ _ ?_ | refine ct_alloc _ ?_ | (refine kc_set ?_ ?_; (focus first | (intro hx; injection hx; omega) | (simp; done))) | refine kc_alloc _ ?_))))
          clear hK K
          (try simp only [Act.put, List.setIfInBounds_toArray, List.set_cons_zero, List.set_cons_succ])
          refine takeH 7 ?_ rfl (by kernel_rfl) (by kernel_rfl) (by kernel_rfl) (fun _ _ _ h => h) ?_ (by rfl) (by assumption) ?_
          rotate_left
          · (intro w hSw; (try dsimp only at hSw); (first | (go_simp; done) | (go_simp; with_reducible rfl)))
          (try simp only [Act.put, List.setIfInBounds_toArray, List.set_cons_zero, List.set_cons_succ])
          refine takeH 8 ?_ rfl (by kernel_rfl) (by kernel_rfl) (by kernel_rfl) (fun _ _ _ h => h) ?_ (by rfl) (by assumption) ?_
          rotate_left
          · (intro w hSw; (try dsimp only at hSw); (first | (go_simp; done) | (go_simp; with_reducible rfl)))
          (try simp only [Act.put, List.setIfInBounds_toArray, List.set_cons_zero, List.set_cons_succ])
          refine takeH 9 ?_ rfl (by kernel_rfl) (by kernel_rfl) (by kernel_rfl) (fun _ _ _ h => h) ?_ (by rfl) (by assumption) ?_
          rotate_left
          · (intro w hSw; (try dsimp only at hSw); (first | (go_simp; done) | (go_simp; with_reducible rfl)))
          (try simp only [Act.put, List.setIfInBounds_toArray, List.set_cons_zero, List.set_cons_succ])
          refine takeH 10 ?_ rfl (by kernel_rfl) (by kernel_rfl) (by kernel_rfl) (fun _ _ _ h => h) ?_ (by rfl) (by assumption) ?_
          rotate_left
          · (intro w hSw; (try dsimp only at hSw); (first | (go_simp; done) | (go_simp; with_reducible rfl)))
          (try simp only [Act.put, List.setIfInBounds_toArray, List.set_cons_zero, List.set_cons_succ])
          refine takeH 11 ?_ rfl (by kernel_rfl) (by kernel_rfl) (by kernel_rfl) (fun _ _ _ h => h) ?_ (by rfl) (by assumption) ?_
          rotate_left
          · (intro w hSw; (try dsimp only at hSw); (first | (go_simp; done) | (go_simp; with_reducible rfl)))
          (try simp only [Act.put, List.setIfInBounds_toArray, List.set_cons_zero, List.set_cons_succ])
          refine takeH 12 ?_ rfl (by kernel_rfl) (by kernel_rfl) (by kernel_rfl) (fun _ _ _ h => h) ?_ (by rfl) (by assumption) ?_
          rotate_left
          · (intro w hSw; (try dsimp only at hSw); (first | (go_simp; done) | (go_simp; with_reducible rfl)))
          (try simp only [Act.put, List.setIfInBounds_toArray, List.set_cons_zero, List.set_cons_succ])
          refine takeH 13 ?_ rfl (by kernel_rfl) (by kernel_rfl) (by kernel_rfl) (fun _ _ _ h => h) ?_ (by rfl) (by assumption) ?_
          rotate_left
          · (intro w hSw; (try dsimp only at hSw); (first | (go_simp; done) | (go_simp; with_reducible rfl)))
          (try simp only [Act.put, List.setIfInBounds_toArray, List.set_cons_zero, List.set_cons_succ])
          refine noneH 14 rfl (by kernel_rfl) (by kernel_rfl) (by kernel_rfl) (fun _ _ _ h => h) (by rfl) (by assumption) ?_
          (try simp only [Act.put, List.setIfInBounds_toArray, List.set_cons_zero, List.set_cons_succ])
          refine noneH 15 rfl (by kernel_rfl) (by kernel_rfl) (by kernel_rfl) (fun _ _ _ h => h) (by rfl) (by assumption) ?_
          (try simp only [Act.put, List.setIfInBounds_toArray, List.set_cons_zero, List.set_cons_succ])
          refine noneH 16 rfl (by kernel_rfl) (by kernel_rfl) (by kernel_rfl) (fun _ _ _ h => h) (by rfl) (by assumption) ?_
          (try simp only [Act.put, List.setIfInBounds_toArray, List.set_cons_zero, List.set_cons_succ])
          refine takeH 17 ?_ rfl (by kernel_rfl) (by kernel_rfl) (by kernel_rfl) (fun _ _ _ h => h) ?_ (by rfl) (by assumption) ?_
          rotate_left
          · (intro w hSw; (try dsimp only at hSw); (first | (go_simp; done) | (go_simp; with_reducible rfl)))
          (try simp only [Act.put, List.setIfInBounds_toArray, List.set_cons_zero, List.set_cons_succ])
          refine takeH 18 ?_ rfl (by kernel_rfl) (by kernel_rfl) (by kernel_rfl) (fun _ _ _ h => h) ?_ (by rfl) (by assumption) ?_
          rotate_left
          · (intro w hSw; (try dsimp only at hSw); (first | (go_simp; done) | (go_simp; with_reducible rfl)))
          (try simp only [Act.put, List.setIfInBounds_toArray, List.set_cons_zero, List.set_cons_succ])
          refine takeH 19 ?_ rfl (by kernel_rfl) (by kernel_rfl) (by kernel_rfl) (fun _ _ _ h => h) ?_ (by rfl) (by assumption) ?_
          rotate_left
          · (intro w hSw; (try dsimp only at hSw); (first | (go_simp; done) | (go_simp; with_reducible rfl)))
          (try simp only [Act.put, List.setIfInBounds_toArray, List.set_cons_zero, List.set_cons_succ])
          refine wpAnyH_done (by kernel_rfl) ?_ _
          refine NoPanic.normal ?_
          go_wp2_with fail
          go_ret
          exact ⟨rfl, by (with_reducible repeat (first | exact hB | exact Below.refl _ _ | refine bl_alloc ?_ _ | refine bl_drew ?_ | refine bl_drewN ?_ _ | (refine bl_set ?_ ?_ _; (focus dsimp only; omega))))⟩
        exact AllReadyH.nil
      exact AllReadyH.nil
    exact AllReadyH.nil
  · have hdd : decide (p + 1 < d) = false := decide_eq_false hd
    obtain ⟨eP, eQ⟩ := KOWN.out (by omega)
    obtain rfl := eP.symm
    obtain rfl := eQ.symm
    refine wp_region_noPanic ?_
    refine wp_region_held_drew (S := (fun w' => (w'.cell? ⟨w.heap.size, 0, none⟩ = some (.int .i64 n) ∧ w'.cell? ⟨w.heap.size, 1, none⟩ = some (.int .i64 d)) ∧ (w'.cell? ⟨w2.heap.size, 0, none⟩ = some (.int .i64 n) ∧ w'.cell? ⟨w2.heap.size, 1, none⟩ = some (.int .i64 d)) ∧ w'.cell? ⟨w3.heap.size, 0, none⟩ = some (.int .i64 P') ∧ w'.cell? ⟨w3.heap.size, 1, none⟩ = some (.int .i64 Q'))) (by kernel_rfl) ?_ (fun hHeld => ?_)
    · ((((try dsimp only); (repeat' apply And.intro)) <;> (with_reducible repeat (first | exact r0 | exact r1 | exact r2 | exact r3 | exact r4 | exact r5 | refine kc_drew ?_ | refine kc_drewN _ ?_ | refine kc_below hb12 ?_ | refine kc_below hb11 ?_ | refine kc_below hb10 ?_ | (refine kc_new ?_ ?_; (focus first | rfl | (simp only [World.size_alloc, World.size_setCell, World.size_drew, size_drewN]; done)); (focus first | rfl | (simp; done))) | (refine kc_set0 ?_ ?_; (focus first | rfl | (simp; done))) | exact ct_of (by assumption) | refine ct_drew ?_ | refine ct_drewN _ ?_ | refine ct_below hb12 ?_ | refine ct_below hb11 ?_ | refine ct_below hb10 ?_ | (refine ct_new ?_ ?_; (focus first | rfl | (simp only [World.size_alloc, World.size_setCell, World.size_drew, size_drewN]; done)); (focus first | rfl | (simp; done))) | refine ct_set _ _ ?_ | refine ct_alloc _ ?_ | (refine kc_set ?_ ?_; (focus first | (intro hx; injection hx; omega) | (simp; done))) | refine kc_alloc _ ?_))))
    refine takeH 0 ?_ rfl (by kernel_rfl) (by kernel_rfl) (by kernel_rfl) (fun _ _ _ h => h) ?_ (by rfl) (by assumption) ?_
    rotate_left
    · (intro w hSw; (try dsimp only at hSw); (first | (go_simp; done) | (go_simp; with_reducible rfl)))
    (try simp only [Act.put, List.setIfInBounds_toArray, List.set_cons_zero, List.set_cons_succ])
    refine takeH 1 ?_ rfl (by kernel_rfl) (by kernel_rfl) (by kernel_rfl) (fun _ _ _ h => h) ?_ (by rfl) (by assumption) ?_
    rotate_left
    · (intro w hSw; (try dsimp only at hSw); (first | (go_simp; done) | (go_simp; with_reducible rfl)))
    (try simp only [Act.put, List.setIfInBounds_toArray, List.set_cons_zero, List.set_cons_succ])
    refine takeH 3 ?_ rfl (by kernel_rfl) (by kernel_rfl) (by kernel_rfl) (fun _ _ _ h => h) ?_ (by rfl) (by assumption) ?_
    rotate_left
    · (intro w hSw; (try dsimp only at hSw); (first | (go_simp; done) | (go_simp; with_reducible rfl)))
    (try simp only [Act.put, List.setIfInBounds_toArray, List.set_cons_zero, List.set_cons_succ])
    refine takeH 4 ?_ rfl (by kernel_rfl) (by kernel_rfl) (by kernel_rfl) (fun _ _ _ h => h) ?_ (by rfl) (by assumption) ?_
    rotate_left
    · (intro w hSw; (try dsimp only at hSw); (first | (go_simp; done) | (go_simp; with_reducible rfl)))
    (try simp only [Act.put, List.setIfInBounds_toArray, List.set_cons_zero, List.set_cons_succ])
    refine wpAnyH_ready (rs := [2]) (by kernel_rfl) (by simp) ?_
    refine consH 2 rfl (fun K hK => ?_) ?_
    · (go_simp; (go_at_call_of 47 (Value.agg #[Value.int IntKind.i64 P', Value.int IntKind.i64 Q']); ((with_reducible refine (HO2 _).out.mono ?_); rintro e w10 ⟨s10, a10, n10, c10, t10, b10, m10, e10, rfl, H10, H10d, hb10⟩; have hn10 : n10 ≤ 10 := (H10.out.len LA'.out); have hm10 : m10 ≤ 10 := (H10d.out.len LD'.out); have Z10 : Hid (∀ W, Below w10.heap.size w10 W → Zat 0 W s10 a10 n10 c10 A' ∧ Zat 0 W t10 b10 m10 e10 D') := (fun W hW => ⟨(H10.out.mono (Nat.zero_le _)).below hW, (H10d.out.mono (Nat.zero_le _)).below hW⟩); clear H10 H10d; have hz10 := hb10.size; (try simp only [World.size_alloc, World.size_setCell, World.size_drew, size_drewN] at hz10); have ⟨r0, r1, r2, r3, r4, r5, r6, r7⟩ : w10.cell? ⟨w.heap.size, 0, none⟩ = some (.int .i64 n) ∧ w10.cell? ⟨w.heap.size, 1, none⟩ = some (.int .i64 d) ∧ w10.cell? ⟨w2.heap.size, 0, none⟩ = some (.int .i64 n) ∧ w10.cell? ⟨w2.heap.size, 1, none⟩ = some (.int .i64 d) ∧ w10.cell? ⟨w3.heap.size, 0, none⟩ = some (.int .i64 P') ∧ w10.cell? ⟨w3.heap.size, 1, none⟩ = some (.int .i64 Q') ∧ w10.cell? ⟨w4.heap.size, 0, none⟩ = some (.int .i64 n) ∧ w10.cell? ⟨w4.heap.size, 1, none⟩ = some (.int .i64 d) := (by and_intros <;> (with_reducible repeat (first | exact r0 | exact r1 | exact r2 | exact r3 | exact r4 | exact r5 | exact r6 | exact r7 | refine kc_drew ?_ | refine kc_drewN _ ?_ | refine kc_below hb10 ?_ | (refine kc_new ?_ ?_; (focus first | rfl | (simp only [World.size_alloc, World.size_setCell, World.size_drew, size_drewN]; done)); (focus first | rfl | (simp; done))) | (refine kc_set0 ?_ ?_; (focus first | rfl | (simp; done))) | exact ct_of (by assumption) | refine ct_drew ?_ | refine ct_drewN _ ?_ | refine ct_below hb10 ?_ | (refine ct_new ?_ ?_; (focus first | rfl | (simp only [World.size_alloc, World.size_setCell, World.size_drew, size_drewN]; done)); (focus first | rfl | (simp; done))) | refine ct_set _ _ ?_ | refine ct_alloc _ ?_ | (refine kc_set ?_ ?_; (focus first | (intro hx; injection hx; omega) | (simp; done))) | refine kc_alloc _ ?_))); have hB : Below w.heap.size w w10 := (by (with_reducible repeat (first | exact hB | exact Below.refl _ _ | refine bl_alloc ?_ _ | refine bl_drew ?_ | refine bl_drewN ?_ _ | (refine bl_set ?_ ?_ _; (focus dsimp only; omega)) | refine bl_call ?_ hb10))); have gW : w.heap.size < w10.heap.size := (by omega); have gA : w2.heap.size < w10.heap.size := (World.block_lt_of_cell? _ _ r2); have gB : w3.heap.size < w10.heap.size := (World.block_lt_of_cell? _ _ r4); have gC : w4.heap.size < w10.heap.size := (World.block_lt_of_cell? _ _ r6))))
      refine hK.out _ _ ?_ (fun hHeld => ?_)
      · ((((try dsimp only); (repeat' apply And.intro)) <;> (with_reducible repeat (first | exact r0 | exact r1 | exact r2 | exact r3 | exact r4 | exact r5 | refine kc_drew ?_ | refine kc_drewN _ ?_ | refine kc_below hb12 ?_ | refine kc_below hb11 ?_ | refine kc_below hb10 ?_ | (refine kc_new ?_ ?_; (focus first | rfl | (simp only [World.size_alloc, World.size_setCell, World.size_drew, size_drewN]; done)); (focus first | rfl | (simp; done))) | (refine kc_set0 ?_ ?_; (focus first | rfl | (simp; done))) | exact ct_of (by assumption) | refine ct_drew ?_ | refine ct_drewN _ ?_ | refine ct_below hb12 ?_ | refine ct_below hb11 ?_ | refine ct_below hb10 ?_ | (refine ct_new ?_ ?_; (focus first | rfl | (simp only [World.size_alloc, World.size_setCell, World.size_drew, size_drewN]; done)); (focus first | rfl | (simp; done))) | refine ct_set _ _ ?_ | refine ct_alloc _ ?_ | (refine kc_set ?_ ?_; (focus first | (intro hx; injection hx; omega) | (simp; done))) | refine kc_alloc _ ?_))))
      clear hK K
      (try simp only [Act.put, List.setIfInBounds_toArray, List.set_cons_zero, List.set_cons_succ])
      refine wpAnyH_ready (rs := [5]) (by kernel_rfl) (by simp) ?_
      refine consH 5 rfl (fun K hK => ?_) ?_
      · (go_simp; (go_at_call_of 47 (Value.agg #[Value.int IntKind.i64 n, Value.int IntKind.i64 d]); ((with_reducible refine (HO1 _).out.mono ?_); rintro e w11 ⟨s11, a11, n11, c11, t11, b11, m11, e11, rfl, H11, H11d, hb11⟩; have hn11 : n11 ≤ 10 := (H11.out.len LA.out); have hm11 : m11 ≤ 10 := (H11d.out.len LD.out); have Z11 : Hid (∀ W, Below w11.heap.size w11 W → Zat 0 W s11 a11 n11 c11 A ∧ Zat 0 W t11 b11 m11 e11 D) := (fun W hW => ⟨(H11.out.mono (Nat.zero_le _)).below hW, (H11d.out.mono (Nat.zero_le _)).below hW⟩); clear H11 H11d; have hz11 := hb11.size; (try simp only [World.size_alloc, World.size_setCell, World.size_drew, size_drewN] at hz11); have ⟨r0, r1, r2, r3, r4, r5, r6, r7⟩ : w11.cell? ⟨w.heap.size, 0, none⟩ = some (.int .i64 n) ∧ w11.cell? ⟨w.heap.size, 1, none⟩ = some (.int .i64 d) ∧ w11.cell? ⟨w2.heap.size, 0, none⟩ = some (.int .i64 n) ∧ w11.cell? ⟨w2.heap.size, 1, none⟩ = some (.int .i64 d) ∧ w11.cell? ⟨w3.heap.size, 0, none⟩ = some (.int .i64 P') ∧ w11.cell? ⟨w3.heap.size, 1, none⟩ = some (.int .i64 Q') ∧ w11.cell? ⟨w4.heap.size, 0, none⟩ = some (.int .i64 n) ∧ w11.cell? ⟨w4.heap.size, 1, none⟩ = some (.int .i64 d) := (by and_intros <;> (with_reducible repeat (first | exact r0 | exact r1 | exact r2 | exact r3 | exact r4 | exact r5 | exact r6 | exact r7 | refine kc_drew ?_ | refine kc_drewN _ ?_ | refine kc_below hb11 ?_ | (refine kc_new ?_ ?_; (focus first | rfl | (simp only [World.size_alloc, World.size_setCell, World.size_drew, size_drewN]; done)); (focus first | rfl | (simp; done))) | (refine kc_set0 ?_ ?_; (focus first | rfl | (simp; done))) | exact ct_of (by assumption) | refine ct_drew ?_ | refine ct_drewN _ ?_ | refine ct_below hb11 ?_ | (refine ct_new ?_ ?_; (focus first | rfl | (simp only [World.size_alloc, World.size_setCell, World.size_drew, size_drewN]; done)); (focus first | rfl | (simp; done))) | refine ct_set _ _ ?_ | refine ct_alloc _ ?_ | (refine kc_set ?_ ?_; (focus first | (intro hx; injection hx; omega) | (simp; done))) | refine kc_alloc _ ?_))); have hB : Below w.heap.size w w11 := (by (with_reducible repeat (first | exact hB | exact Below.refl _ _ | refine bl_alloc ?_ _ | refine bl_drew ?_ | refine bl_drewN ?_ _ | (refine bl_set ?_ ?_ _; (focus dsimp only; omega)) | refine bl_call ?_ hb11))); have gW : w.heap.size < w11.heap.size := (by omega); have gA : w2.heap.size < w11.heap.size := (World.block_lt_of_cell? _ _ r2); have gB : w3.heap.size < w11.heap.size := (World.block_lt_of_cell? _ _ r4); have gC : w4.heap.size < w11.heap.size := (World.block_lt_of_cell? _ _ r6))))
        refine hK.out _ _ ?_ (fun hHeld => ?_)
        · ((((try dsimp only); (repeat' apply And.intro)) <;> (with_reducible repeat (first | exact r0 | exact r1 | exact r2 | exact r3 | exact r4 | exact r5 | refine kc_drew ?_ | refine kc_drewN _ ?_ | refine kc_below hb12 ?_ | refine kc_below hb11 ?_ | refine kc_below hb10 ?_ | (refine kc_new ?_ ?_; (focus first | rfl | (simp only [World.size_alloc, World.size_setCell, World.size_drew, size_drewN]; done)); (focus first | rfl | (simp; done))) | (refine kc_set0 ?_ ?_; (focus first | rfl | (simp; done))) | exact ct_of (by assumption) | refine ct_drew ?_ | refine ct_drewN _ ?_ | refine ct_below hb12 ?_ | refine ct_below hb11 ?_ | refine ct_below hb10 ?_ | (refine ct_new ?_ ?_; (focus first | rfl | (simp only [World.size_alloc, World.size_setCell, World.size_drew, size_drewN]; done)); (focus first | rfl | (simp; done))) | refine ct_set _ _ ?_ | refine ct_alloc _ ?_ | (refine kc_set ?_ ?_; (focus first | (intro hx; injection hx; omega) | (simp; done))) | refine kc_alloc _ ?_))))
        clear hK K
        (try simp only [Act.put, List.setIfInBounds_toArray, List.set_cons_zero, List.set_cons_succ])
        refine wpAnyH_ready (rs := [6]) (by kernel_rfl) (by simp) ?_
        refine consH 6 rfl (fun K hK => ?_) ?_
        · (go_simp; (go_at_call 25; ((with_reducible refine (HCQ _ _ _ _ _ _ _ _ _ _ _ _ _ _ _ _ _ (Z10.out _ (by (with_reducible repeat (first | exact Below.refl _ _ | refine bl_alloc ?_ _ | refine bl_drew ?_ | refine bl_drewN ?_ _ | (refine bl_set ?_ ?_ _; (focus dsimp only; omega)) | refine bl_call ?_ hb11 | refine bl_call ?_ hb10)))).1 (Z10.out _ (by (with_reducible repeat (first | exact Below.refl _ _ | refine bl_alloc ?_ _ | refine bl_drew ?_ | refine bl_drewN ?_ _ | (refine bl_set ?_ ?_ _; (focus dsimp only; omega)) | refine bl_call ?_ hb11 | refine bl_call ?_ hb10)))).2 (Z11.out _ (by (with_reducible repeat (first | exact Below.refl _ _ | refine bl_alloc ?_ _ | refine bl_drew ?_ | refine bl_drewN ?_ _ | (refine bl_set ?_ ?_ _; (focus dsimp only; omega)) | refine bl_call ?_ hb11 | refine bl_call ?_ hb10)))).1 (Z11.out _ (by (with_reducible repeat (first | exact Below.refl _ _ | refine bl_alloc ?_ _ | refine bl_drew ?_ | refine bl_drewN ?_ _ | (refine bl_set ?_ ?_ _; (focus dsimp only; omega)) | refine bl_call ?_ hb11 | refine bl_call ?_ hb10)))).2 (by omega) (by omega) (by omega) (by omega)).out.mono ?_); rintro e w12 ⟨rfl, hb12⟩; have hz12 := hb12.size; (try simp only [World.size_alloc, World.size_setCell, World.size_drew, size_drewN] at hz12); have ⟨r0, r1, r2, r3, r4, r5, r6, r7⟩ : w12.cell? ⟨w.heap.size, 0, none⟩ = some (.int .i64 n) ∧ w12.cell? ⟨w.heap.size, 1, none⟩ = some (.int .i64 d) ∧ w12.cell? ⟨w2.heap.size, 0, none⟩ = some (.int .i64 n) ∧ w12.cell? ⟨w2.heap.size, 1, none⟩ = some (.int .i64 d) ∧ w12.cell? ⟨w3.heap.size, 0, none⟩ = some (.int .i64 P') ∧ w12.cell? ⟨w3.heap.size, 1, none⟩ = some (.int .i64 Q') ∧ w12.cell? ⟨w4.heap.size, 0, none⟩ = some (.int .i64 n) ∧ w12.cell? ⟨w4.heap.size, 1, none⟩ = some (.int .i64 d) := (by and_intros <;> (with_reducible repeat (first | exact r0 | exact r1 | exact r2 | exact r3 | exact r4 | exact r5 | exact r6 | exact r7 | refine kc_drew ?_ | refine kc_drewN _ ?_ | refine kc_below hb12 ?_ | (refine kc_new ?_ ?_; (focus first | rfl | (simp only [World.size_alloc, World.size_setCell, World.size_drew, size_drewN]; done)); (focus first | rfl | (simp; done))) | (refine kc_set0 ?_ ?_; (focus first | rfl | (simp; done))) | exact ct_of (by assumption) | refine ct_drew ?_ | refine ct_drewN _ ?_ | refine ct_below hb12 ?_ | (refine ct_new ?_ ?_; (focus first | rfl | (simp only [World.size_alloc, World.size_setCell, World.size_drew, size_drewN]; done)); (focus first | rfl | (simp; done))) | refine ct_set _ _ ?_ | refine ct_alloc _ ?_ | (refine kc_set ?_ ?_; (focus first | (intro hx; injection hx; omega) | (simp; done))) | refine kc_alloc _ ?_))); have hB : Below w.heap.size w w12 := (by (with_reducible repeat (first | exact hB | exact Below.refl _ _ | refine bl_alloc ?_ _ | refine bl_drew ?_ | refine bl_drewN ?_ _ | (refine bl_set ?_ ?_ _; (focus dsimp only; omega)) | refine bl_call ?_ hb12))); have gW : w.heap.size < w12.heap.size := (by omega); have gA : w2.heap.size < w12.heap.size := (World.block_lt_of_cell? _ _ r2); have gB : w3.heap.size < w12.heap.size := (World.block_lt_of_cell? _ _ r4); have gC : w4.heap.size < w12.heap.size := (World.block_lt_of_cell? _ _ r6))))
          refine hK.out _ _ ?_ (fun hHeld => ?_)
          · ((((try dsimp only); (repeat' apply And.intro)) <;> (with_reducible repeat (first | exact r0 | exact r1 | exact r2 | exact r3 | exact r4 | exact r5 | refine kc_drew ?_ | refine kc_drewN _ ?_ | refine kc_below hb12 ?_ | refine kc_below hb11 ?_ | refine kc_below hb10 ?_ | (refine kc_new ?_ ?_; (focus first | rfl | (simp only [World.size_alloc, World.size_setCell, World.size_drew, size_drewN]; done)); (focus first | rfl | (simp; done))) | (refine kc_set0 ?_ ?_; (focus first | rfl | (simp; done))) | exact ct_of (by assumption) | refine ct_drew ?_ | refine ct_drewN _ ?_ | refine ct_below hb12 ?_ | refine ct_below hb11 ?_ | refine ct_below hb10 ?_ | (refine ct_new ?_ ?_; (focus first | rfl | (simp only [World.size_alloc, World.size_setCell, World.size_drew, size_drewN]; done)); (focus first | rfl | (simp; done))) | refine ct_set _ _ ?_ | refine ct_alloc _ ?_ | (refine kc_set ?_ ?_; (focus first | (intro hx; injection hx; omega) | (simp; done))) | refine kc_alloc _ ?_))))
          clear hK K
          (try simp only [Act.put, List.setIfInBounds_toArray, List.set_cons_zero, List.set_cons_succ])
          refine takeH 7 ?_ rfl (by kernel_rfl) (by kernel_rfl) (by kernel_rfl) (fun _ _ _ h => h) ?_ (by rfl) (by assumption) ?_
          rotate_left
          · (intro w hSw; (try dsimp only at hSw); (first | (go_simp; done) | (go_simp; with_reducible rfl)))
          (try simp only [Act.put, List.setIfInBounds_toArray, List.set_cons_zero, List.set_cons_succ])
          refine takeH 8 ?_ rfl (by kernel_rfl) (by kernel_rfl) (by kernel_rfl) (fun _ _ _ h => h) ?_ (by rfl) (by assumption) ?_
          rotate_left
          · (intro w hSw; (try dsimp only at hSw); (first | (go_simp; done) | (go_simp; with_reducible rfl)))
          (try simp only [Act.put, List.setIfInBounds_toArray, List.set_cons_zero, List.set_cons_succ])
          refine takeH 9 ?_ rfl (by kernel_rfl) (by kernel_rfl) (by kernel_rfl) (fun _ _ _ h => h) ?_ (by rfl) (by assumption) ?_
          rotate_left
          · (intro w hSw; (try dsimp only at hSw); (first | (go_simp; done) | (go_simp; with_reducible rfl)))
          (try simp only [Act.put, List.setIfInBounds_toArray, List.set_cons_zero, List.set_cons_succ])
          refine takeH 10 ?_ rfl (by kernel_rfl) (by kernel_rfl) (by kernel_rfl) (fun _ _ _ h => h) ?_ (by rfl) (by assumption) ?_
          rotate_left
          · (intro w hSw; (try dsimp only at hSw); (first | (go_simp; done) | (go_simp; with_reducible rfl)))
          (try simp only [Act.put, List.setIfInBounds_toArray, List.set_cons_zero, List.set_cons_succ])
          refine takeH 11 ?_ rfl (by kernel_rfl) (by kernel_rfl) (by kernel_rfl) (fun _ _ _ h => h) ?_ (by rfl) (by assumption) ?_
          rotate_left
          · (intro w hSw; (try dsimp only at hSw); (first | (go_simp; done) | (go_simp; with_reducible rfl)))
          (try simp only [Act.put, List.setIfInBounds_toArray, List.set_cons_zero, List.set_cons_succ])
          refine takeH 12 ?_ rfl (by kernel_rfl) (by kernel_rfl) (by kernel_rfl) (fun _ _ _ h => h) ?_ (by rfl) (by assumption) ?_
          rotate_left
          · (intro w hSw; (try dsimp only at hSw); (first | (go_simp; done) | (go_simp; with_reducible rfl)))
          (try simp only [Act.put, List.setIfInBounds_toArray, List.set_cons_zero, List.set_cons_succ])
          refine takeH 13 ?_ rfl (by kernel_rfl) (by kernel_rfl) (by kernel_rfl) (fun _ _ _ h => h) ?_ (by rfl) (by assumption) ?_
          rotate_left
          · (intro w hSw; (try dsimp only at hSw); (first | (go_simp; done) | (go_simp; with_reducible rfl)))
          (try simp only [Act.put, List.setIfInBounds_toArray, List.set_cons_zero, List.set_cons_succ])
          refine takeH 14 ?_ rfl (by kernel_rfl) (by kernel_rfl) (by kernel_rfl) (fun _ _ _ h => h) ?_ (by rfl) (by assumption) ?_
          rotate_left
          · (intro w hSw; (try dsimp only at hSw); (first | (go_simp; done) | (go_simp; with_reducible rfl)))
          (try simp only [Act.put, List.setIfInBounds_toArray, List.set_cons_zero, List.set_cons_succ])
          refine takeH 15 ?_ rfl (by kernel_rfl) (by kernel_rfl) (by kernel_rfl) (fun _ _ _ h => h) ?_ (by rfl) (by assumption) ?_
          rotate_left
          · (intro w hSw; (try dsimp only at hSw); (first | (go_simp; done) | (go_simp; with_reducible rfl)))
          (try simp only [Act.put, List.setIfInBounds_toArray, List.set_cons_zero, List.set_cons_succ])
          refine takeH 16 ?_ rfl (by kernel_rfl) (by kernel_rfl) (by kernel_rfl) (fun _ _ _ h => h) ?_ (by rfl) (by assumption) ?_
          rotate_left
          · (intro w hSw; (try dsimp only at hSw); (first | (go_simp; done) | (go_simp; with_reducible rfl)))
          (try simp only [Act.put, List.setIfInBounds_toArray, List.set_cons_zero, List.set_cons_succ])
          refine takeH 17 ?_ rfl (by kernel_rfl) (by kernel_rfl) (by kernel_rfl) (fun _ _ _ h => h) ?_ (by rfl) (by assumption) ?_
          rotate_left
          · (intro w hSw; (try dsimp only at hSw); (first | (go_simp; done) | (go_simp; with_reducible rfl)))
          (try simp only [Act.put, List.setIfInBounds_toArray, List.set_cons_zero, List.set_cons_succ])
          refine takeH 18 ?_ rfl (by kernel_rfl) (by kernel_rfl) (by kernel_rfl) (fun _ _ _ h => h) ?_ (by rfl) (by assumption) ?_
          rotate_left
          · (intro w hSw; (try dsimp only at hSw); (first | (go_simp; done) | (go_simp; with_reducible rfl)))
          (try simp only [Act.put, List.setIfInBounds_toArray, List.set_cons_zero, List.set_cons_succ])
          refine takeH 19 ?_ rfl (by kernel_rfl) (by kernel_rfl) (by kernel_rfl) (fun _ _ _ h => h) ?_ (by rfl) (by assumption) ?_
          rotate_left
          · (intro w hSw; (try dsimp only at hSw); (first | (go_simp; done) | (go_simp; with_reducible rfl)))
          (try simp only [Act.put, List.setIfInBounds_toArray, List.set_cons_zero, List.set_cons_succ])
          refine wpAnyH_done (by kernel_rfl) ?_ _
          refine NoPanic.normal ?_
          go_wp2_with fail
          go_ret
          exact ⟨rfl, by (with_reducible repeat (first | exact hB | exact Below.refl _ _ | refine bl_alloc ?_ _ | refine bl_drew ?_ | refine bl_drewN ?_ _ | (refine bl_set ?_ ?_ _; (focus dsimp only; omega))))⟩
        exact AllReadyH.nil
      exact AllReadyH.nil
    exact AllReadyH.nil
end Go.Proofs.Ytoenimkgagndnaa
