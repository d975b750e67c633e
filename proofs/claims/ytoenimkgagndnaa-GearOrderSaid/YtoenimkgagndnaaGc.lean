/- Texts of one proof, joined: Betw, Lim, Srch, Best, Pick, Clamp, StillIn, Trains, Seq, Sixty, Body, BodyB, BodyC. -/
import Derived.Test.YtoenimkgagndnaaGb
import Derived.Test.YtoenimkgagndnaaGa
import Derived.StillTail
import Derived.StillTactics
import Derived.OrdersIn
import Derived.TacticsIn
import Derived.RangeFuncCalls
import Derived.CallsIn
import Derived.RangeFuncNested
import Derived.RangeFuncBound
import Derived.RangeFuncLeaves
import Derived.Shelf.Abstract
import Derived.Shelf.RegionOpen
import Derived.OwnWalkIn
import Derived.TacticsInMore
import Derived.LoopNIn
import Derived.LoopIn
import Derived.RangeFuncWrites
import Derived.RangeFuncFrom
/- Walks of package gear: Between. -/
namespace Go.Proofs.Ytoenimkgagndnaa
set_option linter.unusedVariables false
set_option linter.unusedSimpArgs false
open Go.RowKit Go.Lib

/-- The simplest fraction between two. -/
def btwF (n d m e : Int) : Int × Int :=
  if m < 0 then (-(simp2 (d + e).toNat (-m) e (-n) d).1, (simp2 (d + e).toNat (-m) e (-n) d).2) else if n ≤ 0 then (0, 1) else simp2 (d + e).toNat n d m e

theorem cmpF_le {n d m e : Int} (h : cmpF n d m e ≤ 0) : n * e ≤ m * d := by
  unfold cmpF at h
  have := cmpZ_cases' (n * e) (m * d)
  omega

set_option maxHeartbeats 2000000 in
set_option maxRecDepth 100000 in
theorem between_any (n d m e : Int) (w : World) (ho : okF n d) (ho' : okF m e) (hc : cmpF n d m e ≤ 0) :
    Calls Try.prog 24 #[.agg #[.int .i64 n, .int .i64 d], .agg #[.int .i64 m, .int .i64 e]] w fun v w' => v = .returned (.tuple #[.agg #[.int .i64 (btwF n d m e).1, .int .i64 (btwF n d m e).2], .int .i64 0]) ∧ Gro w w' := by
  have hle := cmpF_le hc
  have b := ho
  have b' := ho'
  unfold okF at b b'
  obtain ⟨d1, d2, n2, n3, _⟩ := b
  obtain ⟨e1, e2, m2, m3, _⟩ := b'
  have HA := fun (g : Nat) W h0 h1 h2 h3 => Lib.hid (checkAll_any n d m e g W h0 h1 h2 h3 (by omega) (by omega) (by omega) (by omega) (by omega) (by omega) (by omega) (by omega))
  rw [ck2_ok ho ho'] at HA
  have HC := fun W => Lib.hid (compare_any n d m e W (by omega) (by omega) (by omega) (by omega) (by omega) (by omega) (by omega) (by omega))
  generalize cmpF n d m e = c at *
  have cb : decide (0 < c) = false := by simp; omega
  clear ho ho'
  by_cases hm : m < 0
  · have hn : n < 0 := by
      rcases (show n < 0 ∨ 0 ≤ n by omega) with h | h
      · exact h
      · exfalso
        have h1 : 0 ≤ n * e := Int.mul_nonneg h (by omega)
        have h2 : m * d < 0 := Int.mul_neg_of_neg_of_pos hm (by omega)
        omega
    have hT : Two (-m) e (-n) d := ⟨by omega, e1, by omega, d1, by rw [Int.neg_mul, Int.neg_mul]; omega⟩
    have E : btwF n d m e = (-(simp2 (d + e).toNat (-m) e (-n) d).1, (simp2 (d + e).toNat (-m) e (-n) d).2) := by unfold btwF; rw [if_pos hm]
    have HS := fun W => Lib.hid (simplest_any (d + e).toNat (-m) e (-n) d W hT (by omega) (by omega) (by omega) (by omega) (by omega))
    have L := simp_le (d + e).toNat hT (by omega)
    rw [E]
    clear E hT hle hc
    generalize simp2 (d + e).toNat (-m) e (-n) d = z at *
    obtain ⟨x, y⟩ := z
    simp only at L HS ⊢
    obtain ⟨⟨l1, l2, l3⟩, l4, l5, l6⟩ := L
    go_enter Try.func24, Try.ntmps24
    go_wp2_with (first | (go_at_call 61; refine (HA _ _ (by (with_reducible repeat (first | refine kc_drew ?_ | refine kc_drewN _ ?_ | (refine kc_new ?_ ?_; (focus first | rfl | (simp only [World.size_alloc, World.size_setCell, World.size_drew, size_drewN]; done)); (focus first | rfl | (simp; done))) | (refine kc_set0 ?_ ?_; (focus first | rfl | (simp; done))) | exact ct_of (by assumption) | refine ct_drew ?_ | refine ct_drewN _ ?_ | (refine ct_new ?_ ?_; (focus first | rfl | (simp only [World.size_alloc, World.size_setCell, World.size_drew, size_drewN]; done)); (focus first | rfl | (simp; done))) | refine ct_set _ _ ?_ | refine ct_alloc _ ?_ | (refine kc_set ?_ ?_; (focus first | (intro hx; injection hx; omega) | (simp; done))) | refine kc_alloc _ ?_))) (by (with_reducible repeat (first | refine kc_drew ?_ | refine kc_drewN _ ?_ | (refine kc_new ?_ ?_; (focus first | rfl | (simp only [World.size_alloc, World.size_setCell, World.size_drew, size_drewN]; done)); (focus first | rfl | (simp; done))) | (refine kc_set0 ?_ ?_; (focus first | rfl | (simp; done))) | exact ct_of (by assumption) | refine ct_drew ?_ | refine ct_drewN _ ?_ | (refine ct_new ?_ ?_; (focus first | rfl | (simp only [World.size_alloc, World.size_setCell, World.size_drew, size_drewN]; done)); (focus first | rfl | (simp; done))) | refine ct_set _ _ ?_ | refine ct_alloc _ ?_ | (refine kc_set ?_ ?_; (focus first | (intro hx; injection hx; omega) | (simp; done))) | refine kc_alloc _ ?_))) (by (with_reducible repeat (first | refine kc_drew ?_ | refine kc_drewN _ ?_ | (refine kc_new ?_ ?_; (focus first | rfl | (simp only [World.size_alloc, World.size_setCell, World.size_drew, size_drewN]; done)); (focus first | rfl | (simp; done))) | (refine kc_set0 ?_ ?_; (focus first | rfl | (simp; done))) | exact ct_of (by assumption) | refine ct_drew ?_ | refine ct_drewN _ ?_ | (refine ct_new ?_ ?_; (focus first | rfl | (simp only [World.size_alloc, World.size_setCell, World.size_drew, size_drewN]; done)); (focus first | rfl | (simp; done))) | refine ct_set _ _ ?_ | refine ct_alloc _ ?_ | (refine kc_set ?_ ?_; (focus first | (intro hx; injection hx; omega) | (simp; done))) | refine kc_alloc _ ?_))) (by (with_reducible repeat (first | refine kc_drew ?_ | refine kc_drewN _ ?_ | (refine kc_new ?_ ?_; (focus first | rfl | (simp only [World.size_alloc, World.size_setCell, World.size_drew, size_drewN]; done)); (focus first | rfl | (simp; done))) | (refine kc_set0 ?_ ?_; (focus first | rfl | (simp; done))) | exact ct_of (by assumption) | refine ct_drew ?_ | refine ct_drewN _ ?_ | (refine ct_new ?_ ?_; (focus first | rfl | (simp only [World.size_alloc, World.size_setCell, World.size_drew, size_drewN]; done)); (focus first | rfl | (simp; done))) | refine ct_set _ _ ?_ | refine ct_alloc _ ?_ | (refine kc_set ?_ ?_; (focus first | (intro hx; injection hx; omega) | (simp; done))) | refine kc_alloc _ ?_)))).out.mono ?_; rintro v w1 ⟨rfl, hk1⟩; have hb1 := hk1.below; have ⟨k0, k1, k2, k3, k4, k5⟩ : w1.cell? ⟨w.heap.size, 0, none⟩ = some (.int .i64 n) ∧ w1.cell? ⟨w.heap.size, 1, none⟩ = some (.int .i64 d) ∧ w1.cell? ⟨w.heap.size + 1, 0, none⟩ = some (.int .i64 m) ∧ w1.cell? ⟨w.heap.size + 1, 1, none⟩ = some (.int .i64 e) ∧ w1.cell? ⟨w.heap.size + 1 + 1, 0, none⟩ = some (.int .i64 0) ∧ w1.cell? ⟨w.heap.size + 1 + 1, 1, none⟩ = some (.int .i64 0) := (by and_intros <;> (with_reducible repeat (first | refine kc_drew ?_ | refine kc_drewN _ ?_ | refine kc_below hb1 ?_ | (refine kc_new ?_ ?_; (focus first | rfl | (simp only [World.size_alloc, World.size_setCell, World.size_drew, size_drewN]; done)); (focus first | rfl | (simp; done))) | (refine kc_set0 ?_ ?_; (focus first | rfl | (simp; done))) | exact ct_of (by assumption) | refine ct_drew ?_ | refine ct_drewN _ ?_ | refine ct_below hb1 ?_ | (refine ct_new ?_ ?_; (focus first | rfl | (simp only [World.size_alloc, World.size_setCell, World.size_drew, size_drewN]; done)); (focus first | rfl | (simp; done))) | refine ct_set _ _ ?_ | refine ct_alloc _ ?_ | (refine kc_set ?_ ?_; (focus first | (intro hx; injection hx; omega) | (simp; done))) | refine kc_alloc _ ?_))); have ⟨k6, k7⟩ : w1.frozen? ⟨w.heap.size + 1 + 1, 0, none⟩ = false ∧ w1.frozen? ⟨w.heap.size + 1 + 1, 1, none⟩ = false := (by and_intros <;> (with_reducible repeat (first | refine kf_drew ?_ | refine kf_drewN _ ?_ | (refine kf_new ?_ _; (focus first | rfl | (simp only [World.size_alloc, World.size_setCell, World.size_drew, size_drewN]; done))) | refine kf_set _ _ ?_ | (refine kf_below hb1 ?_ ?_; (focus simp only [World.size_alloc, World.size_setCell, World.size_drew, size_drewN]; omega)) | (refine kf_alloc _ ?_ ?_; (focus first | (simp only [World.size_alloc, World.size_setCell, World.size_drew, size_drewN]; omega) | (dsimp only; omega)))))); have hz1 : w.heap.size + 4 ≤ w1.heap.size := (by have := hb1.size; simp only [World.size_alloc] at this; omega); have g1 : w.heap.size + 1 + 1 < w1.heap.size := (by omega); have hG : Gro w w1 := (by (with_reducible repeat (first | exact gro_refl _ | refine gro_alloc ?_ _ | refine gro_drew ?_ | refine gro_drewN ?_ _ | (refine gro_set ?_ ?_ _; (focus first | omega | (dsimp only; omega))) | refine gro_call ?_ hk1)))) | (go_at_call 62; refine (HC _).out.mono ?_; rintro v w2 ⟨rfl, hk2⟩; have hb2 := hk2.below; have ⟨r0, r1, r2, r3, r4, r5⟩ : w2.cell? ⟨w.heap.size, 0, none⟩ = some (.int .i64 n) ∧ w2.cell? ⟨w.heap.size, 1, none⟩ = some (.int .i64 d) ∧ w2.cell? ⟨w.heap.size + 1, 0, none⟩ = some (.int .i64 m) ∧ w2.cell? ⟨w.heap.size + 1, 1, none⟩ = some (.int .i64 e) ∧ w2.cell? ⟨w.heap.size + 1 + 1, 0, none⟩ = some (.int .i64 0) ∧ w2.cell? ⟨w.heap.size + 1 + 1, 1, none⟩ = some (.int .i64 0) := (by and_intros <;> (with_reducible repeat (first | exact k0 | exact k1 | exact k2 | exact k3 | exact k4 | exact k5 | exact k6 | exact k7 | refine kc_drew ?_ | refine kc_drewN _ ?_ | refine kc_below hb2 ?_ | (refine kc_new ?_ ?_; (focus first | rfl | (simp only [World.size_alloc, World.size_setCell, World.size_drew, size_drewN]; done)); (focus first | rfl | (simp; done))) | (refine kc_set0 ?_ ?_; (focus first | rfl | (simp; done))) | exact ct_of (by assumption) | refine ct_drew ?_ | refine ct_drewN _ ?_ | refine ct_below hb2 ?_ | (refine ct_new ?_ ?_; (focus first | rfl | (simp only [World.size_alloc, World.size_setCell, World.size_drew, size_drewN]; done)); (focus first | rfl | (simp; done))) | refine ct_set _ _ ?_ | refine ct_alloc _ ?_ | (refine kc_set ?_ ?_; (focus first | (intro hx; injection hx; omega) | (simp; done))) | refine kc_alloc _ ?_))); have ⟨r6, r7⟩ : w2.frozen? ⟨w.heap.size + 1 + 1, 0, none⟩ = false ∧ w2.frozen? ⟨w.heap.size + 1 + 1, 1, none⟩ = false := (by and_intros <;> (with_reducible repeat (first | exact k0 | exact k1 | exact k2 | exact k3 | exact k4 | exact k5 | exact k6 | exact k7 | refine kf_drew ?_ | refine kf_drewN _ ?_ | (refine kf_new ?_ _; (focus first | rfl | (simp only [World.size_alloc, World.size_setCell, World.size_drew, size_drewN]; done))) | refine kf_set _ _ ?_ | (refine kf_below hb2 ?_ ?_; (focus simp only [World.size_alloc, World.size_setCell, World.size_drew, size_drewN]; omega)) | (refine kf_alloc _ ?_ ?_; (focus first | (simp only [World.size_alloc, World.size_setCell, World.size_drew, size_drewN]; omega) | (dsimp only; omega)))))); have hz2 := hb2.size; have g2 : w.heap.size + 1 + 1 < w2.heap.size := (by omega); have hG : Gro w w2 := (by (with_reducible repeat (first | exact hG | exact gro_refl _ | refine gro_alloc ?_ _ | refine gro_drew ?_ | refine gro_drewN ?_ _ | (refine gro_set ?_ ?_ _; (focus first | omega | (dsimp only; omega))) | refine gro_call ?_ hk2)))))
    clear hb1 hk1 hb2 hk2 k0 k1 k2 k3 k4 k5 k6 k7
    go_region_held3 (fun w' => (w'.cell? ⟨w.heap.size, 0, none⟩ = some (.int .i64 n) ∧ w'.cell? ⟨w.heap.size, 1, none⟩ = some (.int .i64 d)) ∧ w'.cell? ⟨w.heap.size + 1, 0, none⟩ = some (.int .i64 m) ∧ w'.cell? ⟨w.heap.size + 1, 1, none⟩ = some (.int .i64 e))
      (((try dsimp only); (repeat' apply And.intro)) <;> (repeat (first | with_reducible exact r0 | with_reducible exact r1 | with_reducible exact r2 | with_reducible exact r3 | with_reducible rfl | with_reducible exact Below.refl _ _ | with_reducible exact gro_refl _ | with_reducible refine kc_drew ?_ | with_reducible refine kc_drewN _ ?_ | with_reducible refine kf_drew ?_ | with_reducible refine kf_drewN _ ?_ | with_reducible refine kc_below hb2 ?_ | ((with_reducible refine kc_new ?_ ?_); (focus (first | with_reducible rfl | (simp only [World.size_alloc, World.size_setCell, World.size_drew, size_drewN]; done))); (focus (first | rfl | (simp; done)))) | ((with_reducible refine kc_set0 ?_ ?_); (focus (first | rfl | (simp; done)))) | with_reducible exact ct_of (r0) | with_reducible exact ct_of (r1) | with_reducible exact ct_of (r2) | with_reducible exact ct_of (r3) | with_reducible refine ct_drew ?_ | with_reducible refine ct_drewN _ ?_ | with_reducible refine ct_below hb2 ?_ | ((with_reducible refine ct_new ?_ ?_); (focus (first | with_reducible rfl | (simp only [World.size_alloc, World.size_setCell, World.size_drew, size_drewN]; done))); (focus (first | rfl | (simp; done)))) | with_reducible refine ct_set _ _ ?_ | with_reducible refine ct_alloc _ ?_ | ((with_reducible refine kc_set ?_ ?_); (focus (first | (intro hx; injection hx; omega) | (simp; done)))) | with_reducible refine kc_alloc _ ?_ | ((with_reducible refine kf_new ?_ _); (focus (first | with_reducible rfl | (simp only [World.size_alloc, World.size_setCell, World.size_drew, size_drewN]; done)))) | with_reducible refine kf_set _ _ ?_ | ((with_reducible refine kf_below hb2 ?_ ?_); (focus (simp only [World.size_alloc, World.size_setCell, World.size_drew, size_drewN]; omega))) | ((with_reducible refine kf_alloc _ ?_ ?_); (focus (first | (simp only [World.size_alloc, World.size_setCell, World.size_drew, size_drewN]; omega) | (dsimp only; omega)))) | with_reducible refine bl_alloc ?_ _ | with_reducible refine bl_drew ?_ | with_reducible refine bl_drewN ?_ _ | ((with_reducible refine bl_set ?_ ?_ _); (focus (dsimp only; omega))) | with_reducible refine bl_call ?_ hb2 | with_reducible refine gro_alloc ?_ _ | with_reducible refine gro_drew ?_ | with_reducible refine gro_drewN ?_ _ | ((with_reducible refine gro_set ?_ ?_ _); (focus (first | omega | (dsimp only; omega)))) | with_reducible refine gro_call ?_ hk2)))
      (first | (go_at_call 63; refine (negative_gro _ _ _ (by omega) (by omega)).mono ?_; rintro v w2 ⟨rfl, hk2⟩; have hb2 := hk2.below; have ⟨r0, r1, r2, r3, r4, r5⟩ : w2.cell? ⟨w.heap.size, 0, none⟩ = some (.int .i64 n) ∧ w2.cell? ⟨w.heap.size, 1, none⟩ = some (.int .i64 d) ∧ w2.cell? ⟨w.heap.size + 1, 0, none⟩ = some (.int .i64 m) ∧ w2.cell? ⟨w.heap.size + 1, 1, none⟩ = some (.int .i64 e) ∧ w2.cell? ⟨w.heap.size + 1 + 1, 0, none⟩ = some (.int .i64 0) ∧ w2.cell? ⟨w.heap.size + 1 + 1, 1, none⟩ = some (.int .i64 0) := (by and_intros <;> (with_reducible repeat (first | exact r0 | exact r1 | exact r2 | exact r3 | exact r4 | exact r5 | exact r6 | exact r7 | refine kc_drew ?_ | refine kc_drewN _ ?_ | refine kc_below hb2 ?_ | (refine kc_new ?_ ?_; (focus first | rfl | (simp only [World.size_alloc, World.size_setCell, World.size_drew, size_drewN]; done)); (focus first | rfl | (simp; done))) | (refine kc_set0 ?_ ?_; (focus first | rfl | (simp; done))) | exact ct_of (by assumption) | refine ct_drew ?_ | refine ct_drewN _ ?_ | refine ct_below hb2 ?_ | (refine ct_new ?_ ?_; (focus first | rfl | (simp only [World.size_alloc, World.size_setCell, World.size_drew, size_drewN]; done)); (focus first | rfl | (simp; done))) | refine ct_set _ _ ?_ | refine ct_alloc _ ?_ | (refine kc_set ?_ ?_; (focus first | (intro hx; injection hx; omega) | (simp; done))) | refine kc_alloc _ ?_))); have ⟨r6, r7⟩ : w2.frozen? ⟨w.heap.size + 1 + 1, 0, none⟩ = false ∧ w2.frozen? ⟨w.heap.size + 1 + 1, 1, none⟩ = false := (by and_intros <;> (with_reducible repeat (first | exact r0 | exact r1 | exact r2 | exact r3 | exact r4 | exact r5 | exact r6 | exact r7 | refine kf_drew ?_ | refine kf_drewN _ ?_ | (refine kf_new ?_ _; (focus first | rfl | (simp only [World.size_alloc, World.size_setCell, World.size_drew, size_drewN]; done))) | refine kf_set _ _ ?_ | (refine kf_below hb2 ?_ ?_; (focus simp only [World.size_alloc, World.size_setCell, World.size_drew, size_drewN]; omega)) | (refine kf_alloc _ ?_ ?_; (focus first | (simp only [World.size_alloc, World.size_setCell, World.size_drew, size_drewN]; omega) | (dsimp only; omega)))))); have hG : Gro w w2 := (by (with_reducible repeat (first | exact hG | exact gro_refl _ | refine gro_alloc ?_ _ | refine gro_drew ?_ | refine gro_drewN ?_ _ | (refine gro_set ?_ ?_ _; (focus first | omega | (dsimp only; omega))) | refine gro_call ?_ hk2))); have hz2 := hb2.size; (try simp only [World.size_alloc, World.size_drew, size_drewN] at hz2); have g2 : w.heap.size + 1 + 1 < w2.heap.size := (by omega)) | (go_at_call 64; refine (HS _).out.mono ?_; rintro v w2 ⟨rfl, hk2⟩; have hb2 := hk2.below; have ⟨r0, r1, r2, r3, r4, r5⟩ : w2.cell? ⟨w.heap.size, 0, none⟩ = some (.int .i64 n) ∧ w2.cell? ⟨w.heap.size, 1, none⟩ = some (.int .i64 d) ∧ w2.cell? ⟨w.heap.size + 1, 0, none⟩ = some (.int .i64 m) ∧ w2.cell? ⟨w.heap.size + 1, 1, none⟩ = some (.int .i64 e) ∧ w2.cell? ⟨w.heap.size + 1 + 1, 0, none⟩ = some (.int .i64 0) ∧ w2.cell? ⟨w.heap.size + 1 + 1, 1, none⟩ = some (.int .i64 0) := (by and_intros <;> (with_reducible repeat (first | exact r0 | exact r1 | exact r2 | exact r3 | exact r4 | exact r5 | exact r6 | exact r7 | refine kc_drew ?_ | refine kc_drewN _ ?_ | refine kc_below hb2 ?_ | (refine kc_new ?_ ?_; (focus first | rfl | (simp only [World.size_alloc, World.size_setCell, World.size_drew, size_drewN]; done)); (focus first | rfl | (simp; done))) | (refine kc_set0 ?_ ?_; (focus first | rfl | (simp; done))) | exact ct_of (by assumption) | refine ct_drew ?_ | refine ct_drewN _ ?_ | refine ct_below hb2 ?_ | (refine ct_new ?_ ?_; (focus first | rfl | (simp only [World.size_alloc, World.size_setCell, World.size_drew, size_drewN]; done)); (focus first | rfl | (simp; done))) | refine ct_set _ _ ?_ | refine ct_alloc _ ?_ | (refine kc_set ?_ ?_; (focus first | (intro hx; injection hx; omega) | (simp; done))) | refine kc_alloc _ ?_))); have ⟨r6, r7⟩ : w2.frozen? ⟨w.heap.size + 1 + 1, 0, none⟩ = false ∧ w2.frozen? ⟨w.heap.size + 1 + 1, 1, none⟩ = false := (by and_intros <;> (with_reducible repeat (first | exact r0 | exact r1 | exact r2 | exact r3 | exact r4 | exact r5 | exact r6 | exact r7 | refine kf_drew ?_ | refine kf_drewN _ ?_ | (refine kf_new ?_ _; (focus first | rfl | (simp only [World.size_alloc, World.size_setCell, World.size_drew, size_drewN]; done))) | refine kf_set _ _ ?_ | (refine kf_below hb2 ?_ ?_; (focus simp only [World.size_alloc, World.size_setCell, World.size_drew, size_drewN]; omega)) | (refine kf_alloc _ ?_ ?_; (focus first | (simp only [World.size_alloc, World.size_setCell, World.size_drew, size_drewN]; omega) | (dsimp only; omega)))))); have hG : Gro w w2 := (by (with_reducible repeat (first | exact hG | exact gro_refl _ | refine gro_alloc ?_ _ | refine gro_drew ?_ | refine gro_drewN ?_ _ | (refine gro_set ?_ ?_ _; (focus first | omega | (dsimp only; omega))) | refine gro_call ?_ hk2))); have hz2 := hb2.size; (try simp only [World.size_alloc, World.size_drew, size_drewN] at hz2); have g2 : w.heap.size + 1 + 1 < w2.heap.size := (by omega)))
    all_goals go_wp2_with fail
    all_goals exact bodyPost_ret (v := .tuple #[.agg #[.int .i64 (-x), .int .i64 y], .int .i64 0]) (by simp [results, Try.results24, go_sem, r4, r5, g2, Nat.ne_of_lt g2]) rfl ⟨rfl, by (repeat (first | with_reducible exact hG | with_reducible rfl | with_reducible exact Below.refl _ _ | with_reducible exact gro_refl _ | with_reducible refine kc_drew ?_ | with_reducible refine kc_drewN _ ?_ | with_reducible refine kf_drew ?_ | with_reducible refine kf_drewN _ ?_ | ((with_reducible refine kc_new ?_ ?_); (focus (first | with_reducible rfl | (simp only [World.size_alloc, World.size_setCell, World.size_drew, size_drewN]; done))); (focus (first | rfl | (simp; done)))) | ((with_reducible refine kc_set0 ?_ ?_); (focus (first | rfl | (simp; done)))) | with_reducible exact ct_of (hG) | with_reducible refine ct_drew ?_ | with_reducible refine ct_drewN _ ?_ | ((with_reducible refine ct_new ?_ ?_); (focus (first | with_reducible rfl | (simp only [World.size_alloc, World.size_setCell, World.size_drew, size_drewN]; done))); (focus (first | rfl | (simp; done)))) | with_reducible refine ct_set _ _ ?_ | with_reducible refine ct_alloc _ ?_ | ((with_reducible refine kc_set ?_ ?_); (focus (first | (intro hx; injection hx; omega) | (simp; done)))) | with_reducible refine kc_alloc _ ?_ | ((with_reducible refine kf_new ?_ _); (focus (first | with_reducible rfl | (simp only [World.size_alloc, World.size_setCell, World.size_drew, size_drewN]; done)))) | with_reducible refine kf_set _ _ ?_ | ((with_reducible refine kf_alloc _ ?_ ?_); (focus (first | (simp only [World.size_alloc, World.size_setCell, World.size_drew, size_drewN]; omega) | (dsimp only; omega)))) | with_reducible refine bl_alloc ?_ _ | with_reducible refine bl_drew ?_ | with_reducible refine bl_drewN ?_ _ | ((with_reducible refine bl_set ?_ ?_ _); (focus (dsimp only; omega))) | with_reducible refine gro_alloc ?_ _ | with_reducible refine gro_drew ?_ | with_reducible refine gro_drewN ?_ _ | ((with_reducible refine gro_set ?_ ?_ _); (focus (first | omega | (dsimp only; omega))))))⟩
  · have hm' : 0 ≤ m := by omega
    by_cases hn : n ≤ 0
    · have E : btwF n d m e = (0, 1) := by unfold btwF; rw [if_neg hm, if_pos hn]
      rw [E]
      clear E hle hc
      go_enter Try.func24, Try.ntmps24
      go_wp2_with (first | (go_at_call 61; refine (HA _ _ (by (with_reducible repeat (first | refine kc_drew ?_ | refine kc_drewN _ ?_ | (refine kc_new ?_ ?_; (focus first | rfl | (simp only [World.size_alloc, World.size_setCell, World.size_drew, size_drewN]; done)); (focus first | rfl | (simp; done))) | (refine kc_set0 ?_ ?_; (focus first | rfl | (simp; done))) | exact ct_of (by assumption) | refine ct_drew ?_ | refine ct_drewN _ ?_ | (refine ct_new ?_ ?_; (focus first | rfl | (simp only [World.size_alloc, World.size_setCell, World.size_drew, size_drewN]; done)); (focus first | rfl | (simp; done))) | refine ct_set _ _ ?_ | refine ct_alloc _ ?_ | (refine kc_set ?_ ?_; (focus first | (intro hx; injection hx; omega) | (simp; done))) | refine kc_alloc _ ?_))) (by (with_reducible repeat (first | refine kc_drew ?_ | refine kc_drewN _ ?_ | (refine kc_new ?_ ?_; (focus first | rfl | (simp only [World.size_alloc, World.size_setCell, World.size_drew, size_drewN]; done)); (focus first | rfl | (simp; done))) | (refine kc_set0 ?_ ?_; (focus first | rfl | (simp; done))) | exact ct_of (by assumption) | refine ct_drew ?_ | refine ct_drewN _ ?_ | (refine ct_new ?_ ?_; (focus first | rfl | (simp only [World.size_alloc, World.size_setCell, World.size_drew, size_drewN]; done)); (focus first | rfl | (simp; done))) | refine ct_set _ _ ?_ | refine ct_alloc _ ?_ | (refine kc_set ?_ ?_; (focus first | (intro hx; injection hx; omega) | (simp; done))) | refine kc_alloc _ ?_))) (by (with_reducible repeat (first | refine kc_drew ?_ | refine kc_drewN _ ?_ | (refine kc_new ?_ ?_; (focus first | rfl | (simp only [World.size_alloc, World.size_setCell, World.size_drew, size_drewN]; done)); (focus first | rfl | (simp; done))) | (refine kc_set0 ?_ ?_; (focus first | rfl | (simp; done))) | exact ct_of (by assumption) | refine ct_drew ?_ | refine ct_drewN _ ?_ | (refine ct_new ?_ ?_; (focus first | rfl | (simp only [World.size_alloc, World.size_setCell, World.size_drew, size_drewN]; done)); (focus first | rfl | (simp; done))) | refine ct_set _ _ ?_ | refine ct_alloc _ ?_ | (refine kc_set ?_ ?_; (focus first | (intro hx; injection hx; omega) | (simp; done))) | refine kc_alloc _ ?_))) (by (with_reducible repeat (first | refine kc_drew ?_ | refine kc_drewN _ ?_ | (refine kc_new ?_ ?_; (focus first | rfl | (simp only [World.size_alloc, World.size_setCell, World.size_drew, size_drewN]; done)); (focus first | rfl | (simp; done))) | (refine kc_set0 ?_ ?_; (focus first | rfl | (simp; done))) | exact ct_of (by assumption) | refine ct_drew ?_ | refine ct_drewN _ ?_ | (refine ct_new ?_ ?_; (focus first | rfl | (simp only [World.size_alloc, World.size_setCell, World.size_drew, size_drewN]; done)); (focus first | rfl | (simp; done))) | refine ct_set _ _ ?_ | refine ct_alloc _ ?_ | (refine kc_set ?_ ?_; (focus first | (intro hx; injection hx; omega) | (simp; done))) | refine kc_alloc _ ?_)))).out.mono ?_; rintro v w1 ⟨rfl, hk1⟩; have hb1 := hk1.below; have ⟨k0, k1, k2, k3, k4, k5⟩ : w1.cell? ⟨w.heap.size, 0, none⟩ = some (.int .i64 n) ∧ w1.cell? ⟨w.heap.size, 1, none⟩ = some (.int .i64 d) ∧ w1.cell? ⟨w.heap.size + 1, 0, none⟩ = some (.int .i64 m) ∧ w1.cell? ⟨w.heap.size + 1, 1, none⟩ = some (.int .i64 e) ∧ w1.cell? ⟨w.heap.size + 1 + 1, 0, none⟩ = some (.int .i64 0) ∧ w1.cell? ⟨w.heap.size + 1 + 1, 1, none⟩ = some (.int .i64 0) := (by and_intros <;> (with_reducible repeat (first | refine kc_drew ?_ | refine kc_drewN _ ?_ | refine kc_below hb1 ?_ | (refine kc_new ?_ ?_; (focus first | rfl | (simp only [World.size_alloc, World.size_setCell, World.size_drew, size_drewN]; done)); (focus first | rfl | (simp; done))) | (refine kc_set0 ?_ ?_; (focus first | rfl | (simp; done))) | exact ct_of (by assumption) | refine ct_drew ?_ | refine ct_drewN _ ?_ | refine ct_below hb1 ?_ | (refine ct_new ?_ ?_; (focus first | rfl | (simp only [World.size_alloc, World.size_setCell, World.size_drew, size_drewN]; done)); (focus first | rfl | (simp; done))) | refine ct_set _ _ ?_ | refine ct_alloc _ ?_ | (refine kc_set ?_ ?_; (focus first | (intro hx; injection hx; omega) | (simp; done))) | refine kc_alloc _ ?_))); have ⟨k6, k7⟩ : w1.frozen? ⟨w.heap.size + 1 + 1, 0, none⟩ = false ∧ w1.frozen? ⟨w.heap.size + 1 + 1, 1, none⟩ = false := (by and_intros <;> (with_reducible repeat (first | refine kf_drew ?_ | refine kf_drewN _ ?_ | (refine kf_new ?_ _; (focus first | rfl | (simp only [World.size_alloc, World.size_setCell, World.size_drew, size_drewN]; done))) | refine kf_set _ _ ?_ | (refine kf_below hb1 ?_ ?_; (focus simp only [World.size_alloc, World.size_setCell, World.size_drew, size_drewN]; omega)) | (refine kf_alloc _ ?_ ?_; (focus first | (simp only [World.size_alloc, World.size_setCell, World.size_drew, size_drewN]; omega) | (dsimp only; omega)))))); have hz1 : w.heap.size + 4 ≤ w1.heap.size := (by have := hb1.size; simp only [World.size_alloc] at this; omega); have g1 : w.heap.size + 1 + 1 < w1.heap.size := (by omega); have hG : Gro w w1 := (by (with_reducible repeat (first | exact gro_refl _ | refine gro_alloc ?_ _ | refine gro_drew ?_ | refine gro_drewN ?_ _ | (refine gro_set ?_ ?_ _; (focus first | omega | (dsimp only; omega))) | refine gro_call ?_ hk1)))) | (go_at_call 62; refine (HC _).out.mono ?_; rintro v w2 ⟨rfl, hk2⟩; have hb2 := hk2.below; have ⟨r0, r1, r2, r3, r4, r5⟩ : w2.cell? ⟨w.heap.size, 0, none⟩ = some (.int .i64 n) ∧ w2.cell? ⟨w.heap.size, 1, none⟩ = some (.int .i64 d) ∧ w2.cell? ⟨w.heap.size + 1, 0, none⟩ = some (.int .i64 m) ∧ w2.cell? ⟨w.heap.size + 1, 1, none⟩ = some (.int .i64 e) ∧ w2.cell? ⟨w.heap.size + 1 + 1, 0, none⟩ = some (.int .i64 0) ∧ w2.cell? ⟨w.heap.size + 1 + 1, 1, none⟩ = some (.int .i64 0) := (by and_intros <;> (with_reducible repeat (first | exact k0 | exact k1 | exact k2 | exact k3 | exact k4 | exact k5 | exact k6 | exact k7 | refine kc_drew ?_ | refine kc_drewN _ ?_ | refine kc_below hb2 ?_ | (refine kc_new ?_ ?_; (focus first | rfl | (simp only [World.size_alloc, World.size_setCell, World.size_drew, size_drewN]; done)); (focus first | rfl | (simp; done))) | (refine kc_set0 ?_ ?_; (focus first | rfl | (simp; done))) | exact ct_of (by assumption) | refine ct_drew ?_ | refine ct_drewN _ ?_ | refine ct_below hb2 ?_ | (refine ct_new ?_ ?_; (focus first | rfl | (simp only [World.size_alloc, World.size_setCell, World.size_drew, size_drewN]; done)); (focus first | rfl | (simp; done))) | refine ct_set _ _ ?_ | refine ct_alloc _ ?_ | (refine kc_set ?_ ?_; (focus first | (intro hx; injection hx; omega) | (simp; done))) | refine kc_alloc _ ?_))); have ⟨r6, r7⟩ : w2.frozen? ⟨w.heap.size + 1 + 1, 0, none⟩ = false ∧ w2.frozen? ⟨w.heap.size + 1 + 1, 1, none⟩ = false := (by and_intros <;> (with_reducible repeat (first | exact k0 | exact k1 | exact k2 | exact k3 | exact k4 | exact k5 | exact k6 | exact k7 | refine kf_drew ?_ | refine kf_drewN _ ?_ | (refine kf_new ?_ _; (focus first | rfl | (simp only [World.size_alloc, World.size_setCell, World.size_drew, size_drewN]; done))) | refine kf_set _ _ ?_ | (refine kf_below hb2 ?_ ?_; (focus simp only [World.size_alloc, World.size_setCell, World.size_drew, size_drewN]; omega)) | (refine kf_alloc _ ?_ ?_; (focus first | (simp only [World.size_alloc, World.size_setCell, World.size_drew, size_drewN]; omega) | (dsimp only; omega)))))); have hz2 := hb2.size; have g2 : w.heap.size + 1 + 1 < w2.heap.size := (by omega); have hG : Gro w w2 := (by (with_reducible repeat (first | exact hG | exact gro_refl _ | refine gro_alloc ?_ _ | refine gro_drew ?_ | refine gro_drewN ?_ _ | (refine gro_set ?_ ?_ _; (focus first | omega | (dsimp only; omega))) | refine gro_call ?_ hk2)))))
      clear hb1 hk1 hb2 hk2 k0 k1 k2 k3 k4 k5 k6 k7
      exact bodyPost_ret (v := .tuple #[.agg #[.int .i64 0, .int .i64 1], .int .i64 0]) (by simp [results, Try.results24, go_sem, r4, r5, g2, Nat.ne_of_lt g2]) rfl ⟨rfl, by (repeat (first | with_reducible exact hG | with_reducible rfl | with_reducible exact Below.refl _ _ | with_reducible exact gro_refl _ | with_reducible refine kc_drew ?_ | with_reducible refine kc_drewN _ ?_ | with_reducible refine kf_drew ?_ | with_reducible refine kf_drewN _ ?_ | ((with_reducible refine kc_new ?_ ?_); (focus (first | with_reducible rfl | (simp only [World.size_alloc, World.size_setCell, World.size_drew, size_drewN]; done))); (focus (first | rfl | (simp; done)))) | ((with_reducible refine kc_set0 ?_ ?_); (focus (first | rfl | (simp; done)))) | with_reducible exact ct_of (hG) | with_reducible refine ct_drew ?_ | with_reducible refine ct_drewN _ ?_ | ((with_reducible refine ct_new ?_ ?_); (focus (first | with_reducible rfl | (simp only [World.size_alloc, World.size_setCell, World.size_drew, size_drewN]; done))); (focus (first | rfl | (simp; done)))) | with_reducible refine ct_set _ _ ?_ | with_reducible refine ct_alloc _ ?_ | ((with_reducible refine kc_set ?_ ?_); (focus (first | (intro hx; injection hx; omega) | (simp; done)))) | with_reducible refine kc_alloc _ ?_ | ((with_reducible refine kf_new ?_ _); (focus (first | with_reducible rfl | (simp only [World.size_alloc, World.size_setCell, World.size_drew, size_drewN]; done)))) | with_reducible refine kf_set _ _ ?_ | ((with_reducible refine kf_alloc _ ?_ ?_); (focus (first | (simp only [World.size_alloc, World.size_setCell, World.size_drew, size_drewN]; omega) | (dsimp only; omega)))) | with_reducible refine bl_alloc ?_ _ | with_reducible refine bl_drew ?_ | with_reducible refine bl_drewN ?_ _ | ((with_reducible refine bl_set ?_ ?_ _); (focus (dsimp only; omega))) | with_reducible refine gro_alloc ?_ _ | with_reducible refine gro_drew ?_ | with_reducible refine gro_drewN ?_ _ | ((with_reducible refine gro_set ?_ ?_ _); (focus (first | omega | (dsimp only; omega))))))⟩
    · have hm1 : 1 ≤ m := by
        rcases (show 1 ≤ m ∨ m = 0 by omega) with h | h
        · exact h
        · exfalso
          subst h
          have : 1 * 1 ≤ n * e := Int.mul_le_mul (by omega) e1 (by omega) (by omega)
          omega
      have hT : Two n d m e := ⟨by omega, d1, hm1, e1, hle⟩
      have E : btwF n d m e = simp2 (d + e).toNat n d m e := by unfold btwF; rw [if_neg hm, if_neg hn]
      have HS := fun W => Lib.hid (simplest_any (d + e).toNat n d m e W hT (by omega) (by omega) (by omega) (by omega) (by omega))
      have L := simp_le (d + e).toNat hT (by omega)
      rw [E]
      clear E hT hle hc
      generalize simp2 (d + e).toNat n d m e = z at *
      obtain ⟨x, y⟩ := z
      simp only at L HS ⊢
      have hn' : 1 ≤ n := by omega
      go_enter Try.func24, Try.ntmps24
      go_wp2_with (first | (go_at_call 64; refine (HS _).out.mono ?_; rintro v w2 ⟨rfl, hk2⟩; have hb2 := hk2.below; have ⟨r0, r1, r2, r3, r4, r5⟩ : w2.cell? ⟨w.heap.size, 0, none⟩ = some (.int .i64 n) ∧ w2.cell? ⟨w.heap.size, 1, none⟩ = some (.int .i64 d) ∧ w2.cell? ⟨w.heap.size + 1, 0, none⟩ = some (.int .i64 m) ∧ w2.cell? ⟨w.heap.size + 1, 1, none⟩ = some (.int .i64 e) ∧ w2.cell? ⟨w.heap.size + 1 + 1, 0, none⟩ = some (.int .i64 0) ∧ w2.cell? ⟨w.heap.size + 1 + 1, 1, none⟩ = some (.int .i64 0) := (by and_intros <;> (with_reducible repeat (first | exact r0 | exact r1 | exact r2 | exact r3 | exact r4 | exact r5 | exact r6 | exact r7 | refine kc_drew ?_ | refine kc_drewN _ ?_ | refine kc_below hb2 ?_ | (refine kc_new ?_ ?_; (focus first | rfl | (simp only [World.size_alloc, World.size_setCell, World.size_drew, size_drewN]; done)); (focus first | rfl | (simp; done))) | (refine kc_set0 ?_ ?_; (focus first | rfl | (simp; done))) | exact ct_of (by assumption) | refine ct_drew ?_ | refine ct_drewN _ ?_ | refine ct_below hb2 ?_ | (refine ct_new ?_ ?_; (focus first | rfl | (simp only [World.size_alloc, World.size_setCell, World.size_drew, size_drewN]; done)); (focus first | rfl | (simp; done))) | refine ct_set _ _ ?_ | refine ct_alloc _ ?_ | (refine kc_set ?_ ?_; (focus first | (intro hx; injection hx; omega) | (simp; done))) | refine kc_alloc _ ?_))); have ⟨r6, r7⟩ : w2.frozen? ⟨w.heap.size + 1 + 1, 0, none⟩ = false ∧ w2.frozen? ⟨w.heap.size + 1 + 1, 1, none⟩ = false := (by and_intros <;> (with_reducible repeat (first | exact r0 | exact r1 | exact r2 | exact r3 | exact r4 | exact r5 | exact r6 | exact r7 | refine kf_drew ?_ | refine kf_drewN _ ?_ | (refine kf_new ?_ _; (focus first | rfl | (simp only [World.size_alloc, World.size_setCell, World.size_drew, size_drewN]; done))) | refine kf_set _ _ ?_ | (refine kf_below hb2 ?_ ?_; (focus simp only [World.size_alloc, World.size_setCell, World.size_drew, size_drewN]; omega)) | (refine kf_alloc _ ?_ ?_; (focus first | (simp only [World.size_alloc, World.size_setCell, World.size_drew, size_drewN]; omega) | (dsimp only; omega)))))); have hG : Gro w w2 := (by (with_reducible repeat (first | exact hG | exact gro_refl _ | refine gro_alloc ?_ _ | refine gro_drew ?_ | refine gro_drewN ?_ _ | (refine gro_set ?_ ?_ _; (focus first | omega | (dsimp only; omega))) | refine gro_call ?_ hk2))); have hz2 := hb2.size; (try simp only [World.size_alloc, World.size_drew, size_drewN] at hz2); have g2 : w.heap.size + 1 + 1 < w2.heap.size := (by omega)) | (go_at_call 61; refine (HA _ _ (by (with_reducible repeat (first | refine kc_drew ?_ | refine kc_drewN _ ?_ | (refine kc_new ?_ ?_; (focus first | rfl | (simp only [World.size_alloc, World.size_setCell, World.size_drew, size_drewN]; done)); (focus first | rfl | (simp; done))) | (refine kc_set0 ?_ ?_; (focus first | rfl | (simp; done))) | exact ct_of (by assumption) | refine ct_drew ?_ | refine ct_drewN _ ?_ | (refine ct_new ?_ ?_; (focus first | rfl | (simp only [World.size_alloc, World.size_setCell, World.size_drew, size_drewN]; done)); (focus first | rfl | (simp; done))) | refine ct_set _ _ ?_ | refine ct_alloc _ ?_ | (refine kc_set ?_ ?_; (focus first | (intro hx; injection hx; omega) | (simp; done))) | refine kc_alloc _ ?_))) (by (with_reducible repeat (first | refine kc_drew ?_ | refine kc_drewN _ ?_ | (refine kc_new ?_ ?_; (focus first | rfl | (simp only [World.size_alloc, World.size_setCell, World.size_drew, size_drewN]; done)); (focus first | rfl | (simp; done))) | (refine kc_set0 ?_ ?_; (focus first | rfl | (simp; done))) | exact ct_of (by assumption) | refine ct_drew ?_ | refine ct_drewN _ ?_ | (refine ct_new ?_ ?_; (focus first | rfl | (simp only [World.size_alloc, World.size_setCell, World.size_drew, size_drewN]; done)); (focus first | rfl | (simp; done))) | refine ct_set _ _ ?_ | refine ct_alloc _ ?_ | (refine kc_set ?_ ?_; (focus first | (intro hx; injection hx; omega) | (simp; done))) | refine kc_alloc _ ?_))) (by (with_reducible repeat (first | refine kc_drew ?_ | refine kc_drewN _ ?_ | (refine kc_new ?_ ?_; (focus first | rfl | (simp only [World.size_alloc, World.size_setCell, World.size_drew, size_drewN]; done)); (focus first | rfl | (simp; done))) | (refine kc_set0 ?_ ?_; (focus first | rfl | (simp; done))) | exact ct_of (by assumption) | refine ct_drew ?_ | refine ct_drewN _ ?_ | (refine ct_new ?_ ?_; (focus first | rfl | (simp only [World.size_alloc, World.size_setCell, World.size_drew, size_drewN]; done)); (focus first | rfl | (simp; done))) | refine ct_set _ _ ?_ | refine ct_alloc _ ?_ | (refine kc_set ?_ ?_; (focus first | (intro hx; injection hx; omega) | (simp; done))) | refine kc_alloc _ ?_))) (by (with_reducible repeat (first | refine kc_drew ?_ | refine kc_drewN _ ?_ | (refine kc_new ?_ ?_; (focus first | rfl | (simp only [World.size_alloc, World.size_setCell, World.size_drew, size_drewN]; done)); (focus first | rfl | (simp; done))) | (refine kc_set0 ?_ ?_; (focus first | rfl | (simp; done))) | exact ct_of (by assumption) | refine ct_drew ?_ | refine ct_drewN _ ?_ | (refine ct_new ?_ ?_; (focus first | rfl | (simp only [World.size_alloc, World.size_setCell, World.size_drew, size_drewN]; done)); (focus first | rfl | (simp; done))) | refine ct_set _ _ ?_ | refine ct_alloc _ ?_ | (refine kc_set ?_ ?_; (focus first | (intro hx; injection hx; omega) | (simp; done))) | refine kc_alloc _ ?_)))).out.mono ?_; rintro v w1 ⟨rfl, hk1⟩; have hb1 := hk1.below; have ⟨k0, k1, k2, k3, k4, k5⟩ : w1.cell? ⟨w.heap.size, 0, none⟩ = some (.int .i64 n) ∧ w1.cell? ⟨w.heap.size, 1, none⟩ = some (.int .i64 d) ∧ w1.cell? ⟨w.heap.size + 1, 0, none⟩ = some (.int .i64 m) ∧ w1.cell? ⟨w.heap.size + 1, 1, none⟩ = some (.int .i64 e) ∧ w1.cell? ⟨w.heap.size + 1 + 1, 0, none⟩ = some (.int .i64 0) ∧ w1.cell? ⟨w.heap.size + 1 + 1, 1, none⟩ = some (.int .i64 0) := (by and_intros <;> (with_reducible repeat (first | refine kc_drew ?_ | refine kc_drewN _ ?_ | refine kc_below hb1 ?_ | (refine kc_new ?_ ?_; (focus first | rfl | (simp only [World.size_alloc, World.size_setCell, World.size_drew, size_drewN]; done)); (focus first | rfl | (simp; done))) | (refine kc_set0 ?_ ?_; (focus first | rfl | (simp; done))) | exact ct_of (by assumption) | refine ct_drew ?_ | refine ct_drewN _ ?_ | refine ct_below hb1 ?_ | (refine ct_new ?_ ?_; (focus first | rfl | (simp only [World.size_alloc, World.size_setCell, World.size_drew, size_drewN]; done)); (focus first | rfl | (simp; done))) | refine ct_set _ _ ?_ | refine ct_alloc _ ?_ | (refine kc_set ?_ ?_; (focus first | (intro hx; injection hx; omega) | (simp; done))) | refine kc_alloc _ ?_))); have ⟨k6, k7⟩ : w1.frozen? ⟨w.heap.size + 1 + 1, 0, none⟩ = false ∧ w1.frozen? ⟨w.heap.size + 1 + 1, 1, none⟩ = false := (by and_intros <;> (with_reducible repeat (first | refine kf_drew ?_ | refine kf_drewN _ ?_ | (refine kf_new ?_ _; (focus first | rfl | (simp only [World.size_alloc, World.size_setCell, World.size_drew, size_drewN]; done))) | refine kf_set _ _ ?_ | (refine kf_below hb1 ?_ ?_; (focus simp only [World.size_alloc, World.size_setCell, World.size_drew, size_drewN]; omega)) | (refine kf_alloc _ ?_ ?_; (focus first | (simp only [World.size_alloc, World.size_setCell, World.size_drew, size_drewN]; omega) | (dsimp only; omega)))))); have hz1 : w.heap.size + 4 ≤ w1.heap.size := (by have := hb1.size; simp only [World.size_alloc] at this; omega); have g1 : w.heap.size + 1 + 1 < w1.heap.size := (by omega); have hG : Gro w w1 := (by (with_reducible repeat (first | exact gro_refl _ | refine gro_alloc ?_ _ | refine gro_drew ?_ | refine gro_drewN ?_ _ | (refine gro_set ?_ ?_ _; (focus first | omega | (dsimp only; omega))) | refine gro_call ?_ hk1)))) | (go_at_call 62; refine (HC _).out.mono ?_; rintro v w2 ⟨rfl, hk2⟩; have hb2 := hk2.below; have ⟨r0, r1, r2, r3, r4, r5⟩ : w2.cell? ⟨w.heap.size, 0, none⟩ = some (.int .i64 n) ∧ w2.cell? ⟨w.heap.size, 1, none⟩ = some (.int .i64 d) ∧ w2.cell? ⟨w.heap.size + 1, 0, none⟩ = some (.int .i64 m) ∧ w2.cell? ⟨w.heap.size + 1, 1, none⟩ = some (.int .i64 e) ∧ w2.cell? ⟨w.heap.size + 1 + 1, 0, none⟩ = some (.int .i64 0) ∧ w2.cell? ⟨w.heap.size + 1 + 1, 1, none⟩ = some (.int .i64 0) := (by and_intros <;> (with_reducible repeat (first | exact k0 | exact k1 | exact k2 | exact k3 | exact k4 | exact k5 | exact k6 | exact k7 | refine kc_drew ?_ | refine kc_drewN _ ?_ | refine kc_below hb2 ?_ | (refine kc_new ?_ ?_; (focus first | rfl | (simp only [World.size_alloc, World.size_setCell, World.size_drew, size_drewN]; done)); (focus first | rfl | (simp; done))) | (refine kc_set0 ?_ ?_; (focus first | rfl | (simp; done))) | exact ct_of (by assumption) | refine ct_drew ?_ | refine ct_drewN _ ?_ | refine ct_below hb2 ?_ | (refine ct_new ?_ ?_; (focus first | rfl | (simp only [World.size_alloc, World.size_setCell, World.size_drew, size_drewN]; done)); (focus first | rfl | (simp; done))) | refine ct_set _ _ ?_ | refine ct_alloc _ ?_ | (refine kc_set ?_ ?_; (focus first | (intro hx; injection hx; omega) | (simp; done))) | refine kc_alloc _ ?_))); have ⟨r6, r7⟩ : w2.frozen? ⟨w.heap.size + 1 + 1, 0, none⟩ = false ∧ w2.frozen? ⟨w.heap.size + 1 + 1, 1, none⟩ = false := (by and_intros <;> (with_reducible repeat (first | exact k0 | exact k1 | exact k2 | exact k3 | exact k4 | exact k5 | exact k6 | exact k7 | refine kf_drew ?_ | refine kf_drewN _ ?_ | (refine kf_new ?_ _; (focus first | rfl | (simp only [World.size_alloc, World.size_setCell, World.size_drew, size_drewN]; done))) | refine kf_set _ _ ?_ | (refine kf_below hb2 ?_ ?_; (focus simp only [World.size_alloc, World.size_setCell, World.size_drew, size_drewN]; omega)) | (refine kf_alloc _ ?_ ?_; (focus first | (simp only [World.size_alloc, World.size_setCell, World.size_drew, size_drewN]; omega) | (dsimp only; omega)))))); have hz2 := hb2.size; have g2 : w.heap.size + 1 + 1 < w2.heap.size := (by omega); have hG : Gro w w2 := (by (with_reducible repeat (first | exact hG | exact gro_refl _ | refine gro_alloc ?_ _ | refine gro_drew ?_ | refine gro_drewN ?_ _ | (refine gro_set ?_ ?_ _; (focus first | omega | (dsimp only; omega))) | refine gro_call ?_ hk2)))))
      exact bodyPost_ret (v := .tuple #[.agg #[.int .i64 x, .int .i64 y], .int .i64 0]) (by simp [results, Try.results24, go_sem, r4, r5, g2, Nat.ne_of_lt g2]) rfl ⟨rfl, by (repeat (first | with_reducible exact hG | with_reducible rfl | with_reducible exact Below.refl _ _ | with_reducible exact gro_refl _ | with_reducible refine kc_drew ?_ | with_reducible refine kc_drewN _ ?_ | with_reducible refine kf_drew ?_ | with_reducible refine kf_drewN _ ?_ | ((with_reducible refine kc_new ?_ ?_); (focus (first | with_reducible rfl | (simp only [World.size_alloc, World.size_setCell, World.size_drew, size_drewN]; done))); (focus (first | rfl | (simp; done)))) | ((with_reducible refine kc_set0 ?_ ?_); (focus (first | rfl | (simp; done)))) | with_reducible exact ct_of (hG) | with_reducible refine ct_drew ?_ | with_reducible refine ct_drewN _ ?_ | ((with_reducible refine ct_new ?_ ?_); (focus (first | with_reducible rfl | (simp only [World.size_alloc, World.size_setCell, World.size_drew, size_drewN]; done))); (focus (first | rfl | (simp; done)))) | with_reducible refine ct_set _ _ ?_ | with_reducible refine ct_alloc _ ?_ | ((with_reducible refine kc_set ?_ ?_); (focus (first | (intro hx; injection hx; omega) | (simp; done)))) | with_reducible refine kc_alloc _ ?_ | ((with_reducible refine kf_new ?_ _); (focus (first | with_reducible rfl | (simp only [World.size_alloc, World.size_setCell, World.size_drew, size_drewN]; done)))) | with_reducible refine kf_set _ _ ?_ | ((with_reducible refine kf_alloc _ ?_ ?_); (focus (first | (simp only [World.size_alloc, World.size_setCell, World.size_drew, size_drewN]; omega) | (dsimp only; omega)))) | with_reducible refine bl_alloc ?_ _ | with_reducible refine bl_drew ?_ | with_reducible refine bl_drewN ?_ _ | ((with_reducible refine bl_set ?_ ?_ _); (focus (dsimp only; omega))) | with_reducible refine gro_alloc ?_ _ | with_reducible refine gro_drew ?_ | with_reducible refine gro_drewN ?_ _ | ((with_reducible refine gro_set ?_ ?_ _); (focus (first | omega | (dsimp only; omega))))))⟩

theorem between_bad (n d m e : Int) (w : World) (hn : -9223372036854775808 ≤ n) (hn' : n ≤ 9223372036854775807) (hd : -9223372036854775808 ≤ d) (hd' : d ≤ 9223372036854775807) (hm : -9223372036854775808 ≤ m) (hm' : m ≤ 9223372036854775807) (he : -9223372036854775808 ≤ e) (he' : e ≤ 9223372036854775807)
    (h : ¬ (okF n d ∧ okF m e)) :
    Calls Try.prog 24 #[.agg #[.int .i64 n, .int .i64 d], .agg #[.int .i64 m, .int .i64 e]] w fun v w' => v = .returned (.tuple #[.agg #[.int .i64 0, .int .i64 0], .int .i64 2]) ∧ Gro w w' := by
  have HA := fun (g : Nat) W h0 h1 h2 h3 => Lib.hid (checkAll_any n d m e g W h0 h1 h2 h3 hn hn' hd hd' hm hm' he he')
  rw [ck2_bad h] at HA
  clear h
  go_enter Try.func24, Try.ntmps24
  go_wp2_with (go_at_call 61; refine (HA _ _ (by (with_reducible repeat (first | refine kc_drew ?_ | refine kc_drewN _ ?_ | (refine kc_new ?_ ?_; (focus first | rfl | (simp only [World.size_alloc, World.size_setCell, World.size_drew, size_drewN]; done)); (focus first | rfl | (simp; done))) | (refine kc_set0 ?_ ?_; (focus first | rfl | (simp; done))) | exact ct_of (by assumption) | refine ct_drew ?_ | refine ct_drewN _ ?_ | (refine ct_new ?_ ?_; (focus first | rfl | (simp only [World.size_alloc, World.size_setCell, World.size_drew, size_drewN]; done)); (focus first | rfl | (simp; done))) | refine ct_set _ _ ?_ | refine ct_alloc _ ?_ | (refine kc_set ?_ ?_; (focus first | (intro hx; injection hx; omega) | (simp; done))) | refine kc_alloc _ ?_))) (by (with_reducible repeat (first | refine kc_drew ?_ | refine kc_drewN _ ?_ | (refine kc_new ?_ ?_; (focus first | rfl | (simp only [World.size_alloc, World.size_setCell, World.size_drew, size_drewN]; done)); (focus first | rfl | (simp; done))) | (refine kc_set0 ?_ ?_; (focus first | rfl | (simp; done))) | exact ct_of (by assumption) | refine ct_drew ?_ | refine ct_drewN _ ?_ | (refine ct_new ?_ ?_; (focus first | rfl | (simp only [World.size_alloc, World.size_setCell, World.size_drew, size_drewN]; done)); (focus first | rfl | (simp; done))) | refine ct_set _ _ ?_ | refine ct_alloc _ ?_ | (refine kc_set ?_ ?_; (focus first | (intro hx; injection hx; omega) | (simp; done))) | refine kc_alloc _ ?_))) (by (with_reducible repeat (first | refine kc_drew ?_ | refine kc_drewN _ ?_ | (refine kc_new ?_ ?_; (focus first | rfl | (simp only [World.size_alloc, World.size_setCell, World.size_drew, size_drewN]; done)); (focus first | rfl | (simp; done))) | (refine kc_set0 ?_ ?_; (focus first | rfl | (simp; done))) | exact ct_of (by assumption) | refine ct_drew ?_ | refine ct_drewN _ ?_ | (refine ct_new ?_ ?_; (focus first | rfl | (simp only [World.size_alloc, World.size_setCell, World.size_drew, size_drewN]; done)); (focus first | rfl | (simp; done))) | refine ct_set _ _ ?_ | refine ct_alloc _ ?_ | (refine kc_set ?_ ?_; (focus first | (intro hx; injection hx; omega) | (simp; done))) | refine kc_alloc _ ?_))) (by (with_reducible repeat (first | refine kc_drew ?_ | refine kc_drewN _ ?_ | (refine kc_new ?_ ?_; (focus first | rfl | (simp only [World.size_alloc, World.size_setCell, World.size_drew, size_drewN]; done)); (focus first | rfl | (simp; done))) | (refine kc_set0 ?_ ?_; (focus first | rfl | (simp; done))) | exact ct_of (by assumption) | refine ct_drew ?_ | refine ct_drewN _ ?_ | (refine ct_new ?_ ?_; (focus first | rfl | (simp only [World.size_alloc, World.size_setCell, World.size_drew, size_drewN]; done)); (focus first | rfl | (simp; done))) | refine ct_set _ _ ?_ | refine ct_alloc _ ?_ | (refine kc_set ?_ ?_; (focus first | (intro hx; injection hx; omega) | (simp; done))) | refine kc_alloc _ ?_)))).out.mono ?_; rintro v w1 ⟨rfl, hk1⟩; have hb1 := hk1.below; have ⟨k0, k1, k2, k3, k4, k5⟩ : w1.cell? ⟨w.heap.size, 0, none⟩ = some (.int .i64 n) ∧ w1.cell? ⟨w.heap.size, 1, none⟩ = some (.int .i64 d) ∧ w1.cell? ⟨w.heap.size + 1, 0, none⟩ = some (.int .i64 m) ∧ w1.cell? ⟨w.heap.size + 1, 1, none⟩ = some (.int .i64 e) ∧ w1.cell? ⟨w.heap.size + 1 + 1, 0, none⟩ = some (.int .i64 0) ∧ w1.cell? ⟨w.heap.size + 1 + 1, 1, none⟩ = some (.int .i64 0) := (by and_intros <;> (with_reducible repeat (first | refine kc_drew ?_ | refine kc_drewN _ ?_ | refine kc_below hb1 ?_ | (refine kc_new ?_ ?_; (focus first | rfl | (simp only [World.size_alloc, World.size_setCell, World.size_drew, size_drewN]; done)); (focus first | rfl | (simp; done))) | (refine kc_set0 ?_ ?_; (focus first | rfl | (simp; done))) | exact ct_of (by assumption) | refine ct_drew ?_ | refine ct_drewN _ ?_ | refine ct_below hb1 ?_ | (refine ct_new ?_ ?_; (focus first | rfl | (simp only [World.size_alloc, World.size_setCell, World.size_drew, size_drewN]; done)); (focus first | rfl | (simp; done))) | refine ct_set _ _ ?_ | refine ct_alloc _ ?_ | (refine kc_set ?_ ?_; (focus first | (intro hx; injection hx; omega) | (simp; done))) | refine kc_alloc _ ?_))); have ⟨k6, k7⟩ : w1.frozen? ⟨w.heap.size + 1 + 1, 0, none⟩ = false ∧ w1.frozen? ⟨w.heap.size + 1 + 1, 1, none⟩ = false := (by and_intros <;> (with_reducible repeat (first | refine kf_drew ?_ | refine kf_drewN _ ?_ | (refine kf_new ?_ _; (focus first | rfl | (simp only [World.size_alloc, World.size_setCell, World.size_drew, size_drewN]; done))) | refine kf_set _ _ ?_ | (refine kf_below hb1 ?_ ?_; (focus simp only [World.size_alloc, World.size_setCell, World.size_drew, size_drewN]; omega)) | (refine kf_alloc _ ?_ ?_; (focus first | (simp only [World.size_alloc, World.size_setCell, World.size_drew, size_drewN]; omega) | (dsimp only; omega)))))); have hz1 : w.heap.size + 4 ≤ w1.heap.size := (by have := hb1.size; simp only [World.size_alloc] at this; omega); have g1 : w.heap.size + 1 + 1 < w1.heap.size := (by omega))
  exact bodyPost_ret (v := .tuple #[.agg #[.int .i64 0, .int .i64 0], .int .i64 2]) (by simp [results, Try.results24, go_sem, k4, k5, g1, Nat.ne_of_lt g1]) rfl ⟨rfl, by (repeat (first | with_reducible rfl | with_reducible exact Below.refl _ _ | with_reducible exact gro_refl _ | with_reducible refine kc_drew ?_ | with_reducible refine kc_drewN _ ?_ | with_reducible refine kf_drew ?_ | with_reducible refine kf_drewN _ ?_ | with_reducible refine kc_below hb1 ?_ | ((with_reducible refine kc_new ?_ ?_); (focus (first | with_reducible rfl | (simp only [World.size_alloc, World.size_setCell, World.size_drew, size_drewN]; done))); (focus (first | rfl | (simp; done)))) | ((with_reducible refine kc_set0 ?_ ?_); (focus (first | rfl | (simp; done)))) | with_reducible refine ct_drew ?_ | with_reducible refine ct_drewN _ ?_ | with_reducible refine ct_below hb1 ?_ | ((with_reducible refine ct_new ?_ ?_); (focus (first | with_reducible rfl | (simp only [World.size_alloc, World.size_setCell, World.size_drew, size_drewN]; done))); (focus (first | rfl | (simp; done)))) | with_reducible refine ct_set _ _ ?_ | with_reducible refine ct_alloc _ ?_ | ((with_reducible refine kc_set ?_ ?_); (focus (first | (intro hx; injection hx; omega) | (simp; done)))) | with_reducible refine kc_alloc _ ?_ | ((with_reducible refine kf_new ?_ _); (focus (first | with_reducible rfl | (simp only [World.size_alloc, World.size_setCell, World.size_drew, size_drewN]; done)))) | with_reducible refine kf_set _ _ ?_ | ((with_reducible refine kf_below hb1 ?_ ?_); (focus (simp only [World.size_alloc, World.size_setCell, World.size_drew, size_drewN]; omega))) | ((with_reducible refine kf_alloc _ ?_ ?_); (focus (first | (simp only [World.size_alloc, World.size_setCell, World.size_drew, size_drewN]; omega) | (dsimp only; omega)))) | with_reducible refine bl_alloc ?_ _ | with_reducible refine bl_drew ?_ | with_reducible refine bl_drewN ?_ _ | ((with_reducible refine bl_set ?_ ?_ _); (focus (dsimp only; omega))) | with_reducible refine bl_call ?_ hb1 | with_reducible refine gro_alloc ?_ _ | with_reducible refine gro_drew ?_ | with_reducible refine gro_drewN ?_ _ | ((with_reducible refine gro_set ?_ ?_ _); (focus (first | omega | (dsimp only; omega)))) | with_reducible refine gro_call ?_ hk1))⟩

theorem between_arg (n d m e : Int) (w : World) (ho : okF n d) (ho' : okF m e) (hc : ¬ cmpF n d m e ≤ 0) :
    Calls Try.prog 24 #[.agg #[.int .i64 n, .int .i64 d], .agg #[.int .i64 m, .int .i64 e]] w fun v w' => v = .returned (.tuple #[.agg #[.int .i64 0, .int .i64 0], .int .i64 1]) ∧ Gro w w' := by
  have b := ho
  have b' := ho'
  unfold okF at b b'
  obtain ⟨d1, d2, n2, n3, _⟩ := b
  obtain ⟨e1, e2, m2, m3, _⟩ := b'
  have HA := fun (g : Nat) W h0 h1 h2 h3 => Lib.hid (checkAll_any n d m e g W h0 h1 h2 h3 (by omega) (by omega) (by omega) (by omega) (by omega) (by omega) (by omega) (by omega))
  rw [ck2_ok ho ho'] at HA
  have HC := fun W => Lib.hid (compare_any n d m e W (by omega) (by omega) (by omega) (by omega) (by omega) (by omega) (by omega) (by omega))
  generalize cmpF n d m e = c at *
  have cb : decide (0 < c) = true := by simp; omega
  clear ho ho'
  go_enter Try.func24, Try.ntmps24
  go_wp2_with (first | (go_at_call 61; refine (HA _ _ (by (with_reducible repeat (first | refine kc_drew ?_ | refine kc_drewN _ ?_ | (refine kc_new ?_ ?_; (focus first | rfl | (simp only [World.size_alloc, World.size_setCell, World.size_drew, size_drewN]; done)); (focus first | rfl | (simp; done))) | (refine kc_set0 ?_ ?_; (focus first | rfl | (simp; done))) | exact ct_of (by assumption) | refine ct_drew ?_ | refine ct_drewN _ ?_ | (refine ct_new ?_ ?_; (focus first | rfl | (simp only [World.size_alloc, World.size_setCell, World.size_drew, size_drewN]; done)); (focus first | rfl | (simp; done))) | refine ct_set _ _ ?_ | refine ct_alloc _ ?_ | (refine kc_set ?_ ?_; (focus first | (intro hx; injection hx; omega) | (simp; done))) | refine kc_alloc _ ?_))) (by (with_reducible repeat (first | refine kc_drew ?_ | refine kc_drewN _ ?_ | (refine kc_new ?_ ?_; (focus first | rfl | (simp only [World.size_alloc, World.size_setCell, World.size_drew, size_drewN]; done)); (focus first | rfl | (simp; done))) | (refine kc_set0 ?_ ?_; (focus first | rfl | (simp; done))) | exact ct_of (by assumption) | refine ct_drew ?_ | refine ct_drewN _ ?_ | (refine ct_new ?_ ?_; (focus first | rfl | (simp only [World.size_alloc, World.size_setCell, World.size_drew, size_drewN]; done)); (focus first | rfl | (simp; done))) | refine ct_set _ _ ?_ | refine ct_alloc _ ?_ | (refine kc_set ?_ ?_; (focus first | (intro hx; injection hx; omega) | (simp; done))) | refine kc_alloc _ ?_))) (by (with_reducible repeat (first | refine kc_drew ?_ | refine kc_drewN _ ?_ | (refine kc_new ?_ ?_; (focus first | rfl | (simp only [World.size_alloc, World.size_setCell, World.size_drew, size_drewN]; done)); (focus first | rfl | (simp; done))) | (refine kc_set0 ?_ ?_; (focus first | rfl | (simp; done))) | exact ct_of (by assumption) | refine ct_drew ?_ | refine ct_drewN _ ?_ | (refine ct_new ?_ ?_; (focus first | rfl | (simp only [World.size_alloc, World.size_setCell, World.size_drew, size_drewN]; done)); (focus first | rfl | (simp; done))) | refine ct_set _ _ ?_ | refine ct_alloc _ ?_ | (refine kc_set ?_ ?_; (focus first | (intro hx; injection hx; omega) | (simp; done))) | refine kc_alloc _ ?_))) (by (with_reducible repeat (first | refine kc_drew ?_ | refine kc_drewN _ ?_ | (refine kc_new ?_ ?_; (focus first | rfl | (simp only [World.size_alloc, World.size_setCell, World.size_drew, size_drewN]; done)); (focus first | rfl | (simp; done))) | (refine kc_set0 ?_ ?_; (focus first | rfl | (simp; done))) | exact ct_of (by assumption) | refine ct_drew ?_ | refine ct_drewN _ ?_ | (refine ct_new ?_ ?_; (focus first | rfl | (simp only [World.size_alloc, World.size_setCell, World.size_drew, size_drewN]; done)); (focus first | rfl | (simp; done))) | refine ct_set _ _ ?_ | refine ct_alloc _ ?_ | (refine kc_set ?_ ?_; (focus first | (intro hx; injection hx; omega) | (simp; done))) | refine kc_alloc _ ?_)))).out.mono ?_; rintro v w1 ⟨rfl, hk1⟩; have hb1 := hk1.below; have ⟨k0, k1, k2, k3, k4, k5⟩ : w1.cell? ⟨w.heap.size, 0, none⟩ = some (.int .i64 n) ∧ w1.cell? ⟨w.heap.size, 1, none⟩ = some (.int .i64 d) ∧ w1.cell? ⟨w.heap.size + 1, 0, none⟩ = some (.int .i64 m) ∧ w1.cell? ⟨w.heap.size + 1, 1, none⟩ = some (.int .i64 e) ∧ w1.cell? ⟨w.heap.size + 1 + 1, 0, none⟩ = some (.int .i64 0) ∧ w1.cell? ⟨w.heap.size + 1 + 1, 1, none⟩ = some (.int .i64 0) := (by and_intros <;> (with_reducible repeat (first | refine kc_drew ?_ | refine kc_drewN _ ?_ | refine kc_below hb1 ?_ | (refine kc_new ?_ ?_; (focus first | rfl | (simp only [World.size_alloc, World.size_setCell, World.size_drew, size_drewN]; done)); (focus first | rfl | (simp; done))) | (refine kc_set0 ?_ ?_; (focus first | rfl | (simp; done))) | exact ct_of (by assumption) | refine ct_drew ?_ | refine ct_drewN _ ?_ | refine ct_below hb1 ?_ | (refine ct_new ?_ ?_; (focus first | rfl | (simp only [World.size_alloc, World.size_setCell, World.size_drew, size_drewN]; done)); (focus first | rfl | (simp; done))) | refine ct_set _ _ ?_ | refine ct_alloc _ ?_ | (refine kc_set ?_ ?_; (focus first | (intro hx; injection hx; omega) | (simp; done))) | refine kc_alloc _ ?_))); have ⟨k6, k7⟩ : w1.frozen? ⟨w.heap.size + 1 + 1, 0, none⟩ = false ∧ w1.frozen? ⟨w.heap.size + 1 + 1, 1, none⟩ = false := (by and_intros <;> (with_reducible repeat (first | refine kf_drew ?_ | refine kf_drewN _ ?_ | (refine kf_new ?_ _; (focus first | rfl | (simp only [World.size_alloc, World.size_setCell, World.size_drew, size_drewN]; done))) | refine kf_set _ _ ?_ | (refine kf_below hb1 ?_ ?_; (focus simp only [World.size_alloc, World.size_setCell, World.size_drew, size_drewN]; omega)) | (refine kf_alloc _ ?_ ?_; (focus first | (simp only [World.size_alloc, World.size_setCell, World.size_drew, size_drewN]; omega) | (dsimp only; omega)))))); have hz1 : w.heap.size + 4 ≤ w1.heap.size := (by have := hb1.size; simp only [World.size_alloc] at this; omega); have g1 : w.heap.size + 1 + 1 < w1.heap.size := (by omega); have hG : Gro w w1 := (by (with_reducible repeat (first | exact gro_refl _ | refine gro_alloc ?_ _ | refine gro_drew ?_ | refine gro_drewN ?_ _ | (refine gro_set ?_ ?_ _; (focus first | omega | (dsimp only; omega))) | refine gro_call ?_ hk1)))) | (go_at_call 62; refine (HC _).out.mono ?_; rintro v w2 ⟨rfl, hk2⟩; have hb2 := hk2.below; have ⟨r0, r1, r2, r3, r4, r5⟩ : w2.cell? ⟨w.heap.size, 0, none⟩ = some (.int .i64 n) ∧ w2.cell? ⟨w.heap.size, 1, none⟩ = some (.int .i64 d) ∧ w2.cell? ⟨w.heap.size + 1, 0, none⟩ = some (.int .i64 m) ∧ w2.cell? ⟨w.heap.size + 1, 1, none⟩ = some (.int .i64 e) ∧ w2.cell? ⟨w.heap.size + 1 + 1, 0, none⟩ = some (.int .i64 0) ∧ w2.cell? ⟨w.heap.size + 1 + 1, 1, none⟩ = some (.int .i64 0) := (by and_intros <;> (with_reducible repeat (first | exact k0 | exact k1 | exact k2 | exact k3 | exact k4 | exact k5 | exact k6 | exact k7 | refine kc_drew ?_ | refine kc_drewN _ ?_ | refine kc_below hb2 ?_ | (refine kc_new ?_ ?_; (focus first | rfl | (simp only [World.size_alloc, World.size_setCell, World.size_drew, size_drewN]; done)); (focus first | rfl | (simp; done))) | (refine kc_set0 ?_ ?_; (focus first | rfl | (simp; done))) | exact ct_of (by assumption) | refine ct_drew ?_ | refine ct_drewN _ ?_ | refine ct_below hb2 ?_ | (refine ct_new ?_ ?_; (focus first | rfl | (simp only [World.size_alloc, World.size_setCell, World.size_drew, size_drewN]; done)); (focus first | rfl | (simp; done))) | refine ct_set _ _ ?_ | refine ct_alloc _ ?_ | (refine kc_set ?_ ?_; (focus first | (intro hx; injection hx; omega) | (simp; done))) | refine kc_alloc _ ?_))); have ⟨r6, r7⟩ : w2.frozen? ⟨w.heap.size + 1 + 1, 0, none⟩ = false ∧ w2.frozen? ⟨w.heap.size + 1 + 1, 1, none⟩ = false := (by and_intros <;> (with_reducible repeat (first | exact k0 | exact k1 | exact k2 | exact k3 | exact k4 | exact k5 | exact k6 | exact k7 | refine kf_drew ?_ | refine kf_drewN _ ?_ | (refine kf_new ?_ _; (focus first | rfl | (simp only [World.size_alloc, World.size_setCell, World.size_drew, size_drewN]; done))) | refine kf_set _ _ ?_ | (refine kf_below hb2 ?_ ?_; (focus simp only [World.size_alloc, World.size_setCell, World.size_drew, size_drewN]; omega)) | (refine kf_alloc _ ?_ ?_; (focus first | (simp only [World.size_alloc, World.size_setCell, World.size_drew, size_drewN]; omega) | (dsimp only; omega)))))); have hz2 := hb2.size; have g2 : w.heap.size + 1 + 1 < w2.heap.size := (by omega); have hG : Gro w w2 := (by (with_reducible repeat (first | exact hG | exact gro_refl _ | refine gro_alloc ?_ _ | refine gro_drew ?_ | refine gro_drewN ?_ _ | (refine gro_set ?_ ?_ _; (focus first | omega | (dsimp only; omega))) | refine gro_call ?_ hk2)))))
  exact bodyPost_ret (v := .tuple #[.agg #[.int .i64 0, .int .i64 0], .int .i64 1]) (by simp [results, Try.results24, go_sem, r4, r5, g2, Nat.ne_of_lt g2]) rfl ⟨rfl, by (repeat (first | with_reducible exact hG | with_reducible rfl | with_reducible exact Below.refl _ _ | with_reducible exact gro_refl _ | with_reducible refine kc_drew ?_ | with_reducible refine kc_drewN _ ?_ | with_reducible refine kf_drew ?_ | with_reducible refine kf_drewN _ ?_ | ((with_reducible refine kc_new ?_ ?_); (focus (first | with_reducible rfl | (simp only [World.size_alloc, World.size_setCell, World.size_drew, size_drewN]; done))); (focus (first | rfl | (simp; done)))) | ((with_reducible refine kc_set0 ?_ ?_); (focus (first | rfl | (simp; done)))) | with_reducible exact ct_of (hG) | with_reducible refine ct_drew ?_ | with_reducible refine ct_drewN _ ?_ | ((with_reducible refine ct_new ?_ ?_); (focus (first | with_reducible rfl | (simp only [World.size_alloc, World.size_setCell, World.size_drew, size_drewN]; done))); (focus (first | rfl | (simp; done)))) | with_reducible refine ct_set _ _ ?_ | with_reducible refine ct_alloc _ ?_ | ((with_reducible refine kc_set ?_ ?_); (focus (first | (intro hx; injection hx; omega) | (simp; done)))) | with_reducible refine kc_alloc _ ?_ | ((with_reducible refine kf_new ?_ _); (focus (first | with_reducible rfl | (simp only [World.size_alloc, World.size_setCell, World.size_drew, size_drewN]; done)))) | with_reducible refine kf_set _ _ ?_ | ((with_reducible refine kf_alloc _ ?_ ?_); (focus (first | (simp only [World.size_alloc, World.size_setCell, World.size_drew, size_drewN]; omega) | (dsimp only; omega)))) | with_reducible refine bl_alloc ?_ _ | with_reducible refine bl_drew ?_ | with_reducible refine bl_drewN ?_ _ | ((with_reducible refine bl_set ?_ ?_ _); (focus (dsimp only; omega))) | with_reducible refine gro_alloc ?_ _ | with_reducible refine gro_drew ?_ | with_reducible refine gro_drewN ?_ _ | ((with_reducible refine gro_set ?_ ?_ _); (focus (first | omega | (dsimp only; omega))))))⟩
end Go.Proofs.Ytoenimkgagndnaa

/- Walks of package gear: validTeeth, validLimits, checkSearch. -/
namespace Go.Proofs.Ytoenimkgagndnaa
set_option linter.unusedVariables false
set_option linter.unusedSimpArgs false
open Go.RowKit

/-- What validTeeth answers. -/
def vtF (low high most : Int) : Bool := decide ((1 ≤ high ∧ high ≤ 200) ∧ (1 ≤ low ∧ low ≤ high) ∧ high - low < most)

theorem validTeeth_any (low high most : Int) (w : World) :
    Calls Try.prog 98 #[.int .i64 low, .int .i64 high, .int .i64 most] w fun e w' => e = .returned (.bool (vtF low high most)) ∧ w = w' := by
  by_cases h1 : 1 ≤ high ∧ high ≤ 200
  · have e1 : decide (1 ≤ high ∧ high ≤ 200) = true := by simpa using h1
    by_cases h2 : 1 ≤ low ∧ low ≤ high
    · have e2 : decide (1 ≤ low ∧ low ≤ high) = true := by simpa using h2
      have s0 : 0 ≤ high - low := by omega
      have s1 : high - low ≤ 200 := by omega
      by_cases h3 : high - low < most
      · have E := Lib.hid (show vtF low high most = true by unfold vtF; simp; omega)
        have e3 : decide (high - low < most) = true := by simpa using h3
        go_enter Try.func98, Try.ntmps98
        go_wp2_with (go_at_call 72; refine (inRange_any _ _ _ _).mono ?_; rintro e w' ⟨rfl, rfl⟩)
        go_ret
        exact ⟨ret_bool E.out.symm, rfl⟩
      · have E := Lib.hid (show vtF low high most = false by unfold vtF; simp; omega)
        have e3 : decide (high - low < most) = false := by simpa using h3
        go_enter Try.func98, Try.ntmps98
        go_wp2_with (go_at_call 72; refine (inRange_any _ _ _ _).mono ?_; rintro e w' ⟨rfl, rfl⟩)
        go_ret
        exact ⟨ret_bool E.out.symm, rfl⟩
    · have e2 : decide (1 ≤ low ∧ low ≤ high) = false := by simpa using h2
      have E := Lib.hid (show vtF low high most = false by unfold vtF; simp; omega)
      go_enter Try.func98, Try.ntmps98
      go_wp2_with (go_at_call 72; refine (inRange_any _ _ _ _).mono ?_; rintro e w' ⟨rfl, rfl⟩)
      go_ret
      exact ⟨ret_bool E.out.symm, rfl⟩
  · have e1 : decide (1 ≤ high ∧ high ≤ 200) = false := by simpa using h1
    have E := Lib.hid (show vtF low high most = false by unfold vtF; simp; omega)
    go_enter Try.func98, Try.ntmps98
    go_wp2_with (go_at_call 72; refine (inRange_any _ _ _ _).mono ?_; rintro e w' ⟨rfl, rfl⟩)
    go_ret
    exact ⟨ret_bool E.out.symm, rfl⟩

/-- What validLimits answers. -/
def vlF (a b c d k : Int) : Bool := vtF a b 64 && (vtF c d 12 && decide (1 ≤ k ∧ k ≤ 3))

theorem validLimits_any (a b c d k : Int) (w : World) :
    Calls Try.prog 73 #[.agg #[.int .i64 a, .int .i64 b, .int .i64 c, .int .i64 d, .int .i64 k]] w fun e w' => e = .returned (.bool (vlF a b c d k)) ∧ Gro w w' := by
  have E := Lib.hid (show (vtF a b 64 && (vtF c d 12 && decide (1 ≤ k ∧ k ≤ 3))) = vlF a b c d k from rfl)
  cases h1 : vtF a b 64
  · rw [h1] at E
    go_enter Try.func73, Try.ntmps73
    go_wp2_with (go_at_call 98; refine (validTeeth_any _ _ _ _).mono ?_; rintro e w' ⟨rfl, rfl⟩)
    go_ret
    exact ⟨ret_bool (by simpa using E.out), by (repeat (first | with_reducible rfl | with_reducible exact Below.refl _ _ | with_reducible exact gro_refl _ | with_reducible refine kc_drew ?_ | with_reducible refine kc_drewN _ ?_ | with_reducible refine kf_drew ?_ | with_reducible refine kf_drewN _ ?_ | ((with_reducible refine kc_new ?_ ?_); (focus (first | with_reducible rfl | (simp only [World.size_alloc, World.size_setCell, World.size_drew, size_drewN]; done))); (focus (first | rfl | (simp; done)))) | ((with_reducible refine kc_set0 ?_ ?_); (focus (first | rfl | (simp; done)))) | with_reducible refine ct_drew ?_ | with_reducible refine ct_drewN _ ?_ | ((with_reducible refine ct_new ?_ ?_); (focus (first | with_reducible rfl | (simp only [World.size_alloc, World.size_setCell, World.size_drew, size_drewN]; done))); (focus (first | rfl | (simp; done)))) | with_reducible refine ct_set _ _ ?_ | with_reducible refine ct_alloc _ ?_ | ((with_reducible refine kc_set ?_ ?_); (focus (first | (intro hx; injection hx; omega) | (simp; done)))) | with_reducible refine kc_alloc _ ?_ | ((with_reducible refine kf_new ?_ _); (focus (first | with_reducible rfl | (simp only [World.size_alloc, World.size_setCell, World.size_drew, size_drewN]; done)))) | with_reducible refine kf_set _ _ ?_ | ((with_reducible refine kf_alloc _ ?_ ?_); (focus (first | (simp only [World.size_alloc, World.size_setCell, World.size_drew, size_drewN]; omega) | (dsimp only; omega)))) | with_reducible refine bl_alloc ?_ _ | with_reducible refine bl_drew ?_ | with_reducible refine bl_drewN ?_ _ | ((with_reducible refine bl_set ?_ ?_ _); (focus (dsimp only; omega))) | with_reducible refine gro_alloc ?_ _ | with_reducible refine gro_drew ?_ | with_reducible refine gro_drewN ?_ _ | ((with_reducible refine gro_set ?_ ?_ _); (focus (first | omega | (dsimp only; omega))))))⟩
  · cases h2 : vtF c d 12
    · rw [h1, h2] at E
      go_enter Try.func73, Try.ntmps73
      go_wp2_with (go_at_call 98; refine (validTeeth_any _ _ _ _).mono ?_; rintro e w' ⟨rfl, rfl⟩)
      go_ret
      exact ⟨ret_bool (by simpa using E.out), by (repeat (first | with_reducible rfl | with_reducible exact Below.refl _ _ | with_reducible exact gro_refl _ | with_reducible refine kc_drew ?_ | with_reducible refine kc_drewN _ ?_ | with_reducible refine kf_drew ?_ | with_reducible refine kf_drewN _ ?_ | ((with_reducible refine kc_new ?_ ?_); (focus (first | with_reducible rfl | (simp only [World.size_alloc, World.size_setCell, World.size_drew, size_drewN]; done))); (focus (first | rfl | (simp; done)))) | ((with_reducible refine kc_set0 ?_ ?_); (focus (first | rfl | (simp; done)))) | with_reducible refine ct_drew ?_ | with_reducible refine ct_drewN _ ?_ | ((with_reducible refine ct_new ?_ ?_); (focus (first | with_reducible rfl | (simp only [World.size_alloc, World.size_setCell, World.size_drew, size_drewN]; done))); (focus (first | rfl | (simp; done)))) | with_reducible refine ct_set _ _ ?_ | with_reducible refine ct_alloc _ ?_ | ((with_reducible refine kc_set ?_ ?_); (focus (first | (intro hx; injection hx; omega) | (simp; done)))) | with_reducible refine kc_alloc _ ?_ | ((with_reducible refine kf_new ?_ _); (focus (first | with_reducible rfl | (simp only [World.size_alloc, World.size_setCell, World.size_drew, size_drewN]; done)))) | with_reducible refine kf_set _ _ ?_ | ((with_reducible refine kf_alloc _ ?_ ?_); (focus (first | (simp only [World.size_alloc, World.size_setCell, World.size_drew, size_drewN]; omega) | (dsimp only; omega)))) | with_reducible refine bl_alloc ?_ _ | with_reducible refine bl_drew ?_ | with_reducible refine bl_drewN ?_ _ | ((with_reducible refine bl_set ?_ ?_ _); (focus (dsimp only; omega))) | with_reducible refine gro_alloc ?_ _ | with_reducible refine gro_drew ?_ | with_reducible refine gro_drewN ?_ _ | ((with_reducible refine gro_set ?_ ?_ _); (focus (first | omega | (dsimp only; omega))))))⟩
    · rw [h1, h2] at E
      go_enter Try.func73, Try.ntmps73
      go_wp2_with (first | (go_at_call 98; refine (validTeeth_any _ _ _ _).mono ?_; rintro e w' ⟨rfl, rfl⟩) | (go_at_call 72; refine (inRange_any _ _ _ _).mono ?_; rintro e w' ⟨rfl, rfl⟩))
      go_ret
      exact ⟨ret_bool (by simpa using E.out), by (repeat (first | with_reducible rfl | with_reducible exact Below.refl _ _ | with_reducible exact gro_refl _ | with_reducible refine kc_drew ?_ | with_reducible refine kc_drewN _ ?_ | with_reducible refine kf_drew ?_ | with_reducible refine kf_drewN _ ?_ | ((with_reducible refine kc_new ?_ ?_); (focus (first | with_reducible rfl | (simp only [World.size_alloc, World.size_setCell, World.size_drew, size_drewN]; done))); (focus (first | rfl | (simp; done)))) | ((with_reducible refine kc_set0 ?_ ?_); (focus (first | rfl | (simp; done)))) | with_reducible refine ct_drew ?_ | with_reducible refine ct_drewN _ ?_ | ((with_reducible refine ct_new ?_ ?_); (focus (first | with_reducible rfl | (simp only [World.size_alloc, World.size_setCell, World.size_drew, size_drewN]; done))); (focus (first | rfl | (simp; done)))) | with_reducible refine ct_set _ _ ?_ | with_reducible refine ct_alloc _ ?_ | ((with_reducible refine kc_set ?_ ?_); (focus (first | (intro hx; injection hx; omega) | (simp; done)))) | with_reducible refine kc_alloc _ ?_ | ((with_reducible refine kf_new ?_ _); (focus (first | with_reducible rfl | (simp only [World.size_alloc, World.size_setCell, World.size_drew, size_drewN]; done)))) | with_reducible refine kf_set _ _ ?_ | ((with_reducible refine kf_alloc _ ?_ ?_); (focus (first | (simp only [World.size_alloc, World.size_setCell, World.size_drew, size_drewN]; omega) | (dsimp only; omega)))) | with_reducible refine bl_alloc ?_ _ | with_reducible refine bl_drew ?_ | with_reducible refine bl_drewN ?_ _ | ((with_reducible refine bl_set ?_ ?_ _); (focus (dsimp only; omega))) | with_reducible refine gro_alloc ?_ _ | with_reducible refine gro_drew ?_ | with_reducible refine gro_drewN ?_ _ | ((with_reducible refine gro_set ?_ ?_ _); (focus (first | omega | (dsimp only; omega))))))⟩
end Go.Proofs.Ytoenimkgagndnaa

/- Walks of package gear: checkSearch. -/
namespace Go.Proofs.Ytoenimkgagndnaa
set_option linter.unusedVariables false
set_option linter.unusedSimpArgs false
open Go.RowKit

/-- What checkSearch answers. -/
def csF (n d a b c e k : Int) : Int := if okF n d then (if vlF a b c e k = true ∧ 0 < n then 0 else 1) else 2

theorem checkSearch_any (n d a b c e k : Int) (w : World) (hn : -9223372036854775808 ≤ n) (hn' : n ≤ 9223372036854775807) (hd : -9223372036854775808 ≤ d) (hd' : d ≤ 9223372036854775807) :
    Calls Try.prog 81 #[.agg #[.int .i64 n, .int .i64 d], .agg #[.int .i64 a, .int .i64 b, .int .i64 c, .int .i64 e, .int .i64 k]] w fun v w' => v = .returned (.int .i64 (csF n d a b c e k)) ∧ Gro w w' := by
  by_cases h : okF n d
  · have hck := ckF_ok h
    have E1 := Lib.hid (show csF n d a b c e k = if vlF a b c e k = true ∧ 0 < n then 0 else 1 from if_pos h)
    have hC := fun W => check_any n d W hn hn' hd hd'
    rw [hck] at hC
    clear hck
    cases hv : vlF a b c e k
    · have E := Lib.hid (show csF n d a b c e k = 1 by rw [E1.out, hv]; simp)
      have hV := fun W => validLimits_any a b c e k W
      rw [hv] at hV
      clear hv h
      go_enter Try.func81, Try.ntmps81
      go_wp2_with (first | (go_at_call 20; refine (hC _).mono ?_; rintro x w1 ⟨rfl, hk1⟩; have hb1 := hk1.below; obtain ⟨hc1, hf1⟩ := bcell hb1; simp only [World.size_alloc] at hc1 hf1) | (go_at_call 73; refine (hV _).mono ?_; rintro x w2 ⟨rfl, hk2⟩; have hb2 := hk2.below))
      go_ret
      exact ⟨ret_i64 E.out.symm, by (repeat (first | with_reducible rfl | with_reducible exact Below.refl _ _ | with_reducible exact gro_refl _ | with_reducible refine kc_drew ?_ | with_reducible refine kc_drewN _ ?_ | with_reducible refine kf_drew ?_ | with_reducible refine kf_drewN _ ?_ | with_reducible refine kc_below hb2 ?_ | with_reducible refine kc_below hb1 ?_ | ((with_reducible refine kc_new ?_ ?_); (focus (first | with_reducible rfl | (simp only [World.size_alloc, World.size_setCell, World.size_drew, size_drewN]; done))); (focus (first | rfl | (simp; done)))) | ((with_reducible refine kc_set0 ?_ ?_); (focus (first | rfl | (simp; done)))) | with_reducible refine ct_drew ?_ | with_reducible refine ct_drewN _ ?_ | with_reducible refine ct_below hb2 ?_ | with_reducible refine ct_below hb1 ?_ | ((with_reducible refine ct_new ?_ ?_); (focus (first | with_reducible rfl | (simp only [World.size_alloc, World.size_setCell, World.size_drew, size_drewN]; done))); (focus (first | rfl | (simp; done)))) | with_reducible refine ct_set _ _ ?_ | with_reducible refine ct_alloc _ ?_ | ((with_reducible refine kc_set ?_ ?_); (focus (first | (intro hx; injection hx; omega) | (simp; done)))) | with_reducible refine kc_alloc _ ?_ | ((with_reducible refine kf_new ?_ _); (focus (first | with_reducible rfl | (simp only [World.size_alloc, World.size_setCell, World.size_drew, size_drewN]; done)))) | with_reducible refine kf_set _ _ ?_ | ((with_reducible refine kf_below hb2 ?_ ?_); (focus (simp only [World.size_alloc, World.size_setCell, World.size_drew, size_drewN]; omega))) | ((with_reducible refine kf_below hb1 ?_ ?_); (focus (simp only [World.size_alloc, World.size_setCell, World.size_drew, size_drewN]; omega))) | ((with_reducible refine kf_alloc _ ?_ ?_); (focus (first | (simp only [World.size_alloc, World.size_setCell, World.size_drew, size_drewN]; omega) | (dsimp only; omega)))) | with_reducible refine bl_alloc ?_ _ | with_reducible refine bl_drew ?_ | with_reducible refine bl_drewN ?_ _ | ((with_reducible refine bl_set ?_ ?_ _); (focus (dsimp only; omega))) | with_reducible refine bl_call ?_ hb2 | with_reducible refine bl_call ?_ hb1 | with_reducible refine gro_alloc ?_ _ | with_reducible refine gro_drew ?_ | with_reducible refine gro_drewN ?_ _ | ((with_reducible refine gro_set ?_ ?_ _); (focus (first | omega | (dsimp only; omega)))) | with_reducible refine gro_call ?_ hk2 | with_reducible refine gro_call ?_ hk1))⟩
    · have hV := fun W => validLimits_any a b c e k W
      rw [hv] at hV
      by_cases hp : 0 < n
      · have E := Lib.hid (show csF n d a b c e k = 0 by rw [E1.out, hv]; simp [hp])
        have t : decide (n ≤ 0) = false := by simpa using hp
        clear hv h
        go_enter Try.func81, Try.ntmps81
        go_wp2_with (first | (go_at_call 20; refine (hC _).mono ?_; rintro x w1 ⟨rfl, hk1⟩; have hb1 := hk1.below; obtain ⟨hc1, hf1⟩ := bcell hb1; simp only [World.size_alloc] at hc1 hf1) | (go_at_call 73; refine (hV _).mono ?_; rintro x w2 ⟨rfl, hk2⟩; have hk3 := gro_call hk1 hk2; have hb3 := hk3.below; clear hk1 hb1 hk2 hc1 hf1; obtain ⟨hc1, hf1⟩ := bcell hb3; simp only [World.size_alloc] at hc1 hf1))
        go_ret
        exact ⟨ret_i64 E.out.symm, by (repeat (first | with_reducible rfl | with_reducible exact Below.refl _ _ | with_reducible exact gro_refl _ | with_reducible refine kc_drew ?_ | with_reducible refine kc_drewN _ ?_ | with_reducible refine kf_drew ?_ | with_reducible refine kf_drewN _ ?_ | with_reducible refine kc_below hb3 ?_ | ((with_reducible refine kc_new ?_ ?_); (focus (first | with_reducible rfl | (simp only [World.size_alloc, World.size_setCell, World.size_drew, size_drewN]; done))); (focus (first | rfl | (simp; done)))) | ((with_reducible refine kc_set0 ?_ ?_); (focus (first | rfl | (simp; done)))) | with_reducible refine ct_drew ?_ | with_reducible refine ct_drewN _ ?_ | with_reducible refine ct_below hb3 ?_ | ((with_reducible refine ct_new ?_ ?_); (focus (first | with_reducible rfl | (simp only [World.size_alloc, World.size_setCell, World.size_drew, size_drewN]; done))); (focus (first | rfl | (simp; done)))) | with_reducible refine ct_set _ _ ?_ | with_reducible refine ct_alloc _ ?_ | ((with_reducible refine kc_set ?_ ?_); (focus (first | (intro hx; injection hx; omega) | (simp; done)))) | with_reducible refine kc_alloc _ ?_ | ((with_reducible refine kf_new ?_ _); (focus (first | with_reducible rfl | (simp only [World.size_alloc, World.size_setCell, World.size_drew, size_drewN]; done)))) | with_reducible refine kf_set _ _ ?_ | ((with_reducible refine kf_below hb3 ?_ ?_); (focus (simp only [World.size_alloc, World.size_setCell, World.size_drew, size_drewN]; omega))) | ((with_reducible refine kf_alloc _ ?_ ?_); (focus (first | (simp only [World.size_alloc, World.size_setCell, World.size_drew, size_drewN]; omega) | (dsimp only; omega)))) | with_reducible refine bl_alloc ?_ _ | with_reducible refine bl_drew ?_ | with_reducible refine bl_drewN ?_ _ | ((with_reducible refine bl_set ?_ ?_ _); (focus (dsimp only; omega))) | with_reducible refine bl_call ?_ hb3 | with_reducible refine gro_alloc ?_ _ | with_reducible refine gro_drew ?_ | with_reducible refine gro_drewN ?_ _ | ((with_reducible refine gro_set ?_ ?_ _); (focus (first | omega | (dsimp only; omega)))) | with_reducible refine gro_call ?_ hk3))⟩
      · have E := Lib.hid (show csF n d a b c e k = 1 by rw [E1.out, hv]; simp; omega)
        have t : decide (n ≤ 0) = true := by simpa using hp
        clear hv h
        go_enter Try.func81, Try.ntmps81
        go_wp2_with (first | (go_at_call 20; refine (hC _).mono ?_; rintro x w1 ⟨rfl, hk1⟩; have hb1 := hk1.below; obtain ⟨hc1, hf1⟩ := bcell hb1; simp only [World.size_alloc] at hc1 hf1) | (go_at_call 73; refine (hV _).mono ?_; rintro x w2 ⟨rfl, hk2⟩; have hk3 := gro_call hk1 hk2; have hb3 := hk3.below; clear hk1 hb1 hk2 hc1 hf1; obtain ⟨hc1, hf1⟩ := bcell hb3; simp only [World.size_alloc] at hc1 hf1))
        go_ret
        exact ⟨ret_i64 E.out.symm, by (repeat (first | with_reducible rfl | with_reducible exact Below.refl _ _ | with_reducible exact gro_refl _ | with_reducible refine kc_drew ?_ | with_reducible refine kc_drewN _ ?_ | with_reducible refine kf_drew ?_ | with_reducible refine kf_drewN _ ?_ | with_reducible refine kc_below hb3 ?_ | ((with_reducible refine kc_new ?_ ?_); (focus (first | with_reducible rfl | (simp only [World.size_alloc, World.size_setCell, World.size_drew, size_drewN]; done))); (focus (first | rfl | (simp; done)))) | ((with_reducible refine kc_set0 ?_ ?_); (focus (first | rfl | (simp; done)))) | with_reducible refine ct_drew ?_ | with_reducible refine ct_drewN _ ?_ | with_reducible refine ct_below hb3 ?_ | ((with_reducible refine ct_new ?_ ?_); (focus (first | with_reducible rfl | (simp only [World.size_alloc, World.size_setCell, World.size_drew, size_drewN]; done))); (focus (first | rfl | (simp; done)))) | with_reducible refine ct_set _ _ ?_ | with_reducible refine ct_alloc _ ?_ | ((with_reducible refine kc_set ?_ ?_); (focus (first | (intro hx; injection hx; omega) | (simp; done)))) | with_reducible refine kc_alloc _ ?_ | ((with_reducible refine kf_new ?_ _); (focus (first | with_reducible rfl | (simp only [World.size_alloc, World.size_setCell, World.size_drew, size_drewN]; done)))) | with_reducible refine kf_set _ _ ?_ | ((with_reducible refine kf_below hb3 ?_ ?_); (focus (simp only [World.size_alloc, World.size_setCell, World.size_drew, size_drewN]; omega))) | ((with_reducible refine kf_alloc _ ?_ ?_); (focus (first | (simp only [World.size_alloc, World.size_setCell, World.size_drew, size_drewN]; omega) | (dsimp only; omega)))) | with_reducible refine bl_alloc ?_ _ | with_reducible refine bl_drew ?_ | with_reducible refine bl_drewN ?_ _ | ((with_reducible refine bl_set ?_ ?_ _); (focus (dsimp only; omega))) | with_reducible refine bl_call ?_ hb3 | with_reducible refine gro_alloc ?_ _ | with_reducible refine gro_drew ?_ | with_reducible refine gro_drewN ?_ _ | ((with_reducible refine gro_set ?_ ?_ _); (focus (first | omega | (dsimp only; omega)))) | with_reducible refine gro_call ?_ hk3))⟩
  · have E := Lib.hid (show csF n d a b c e k = 2 from if_neg h)
    have hC := fun W => check_any n d W hn hn' hd hd'
    rw [ckF_bad h] at hC
    clear h
    go_enter Try.func81, Try.ntmps81
    go_wp2_with (go_at_call 20; refine (hC _).mono ?_; rintro x w1 ⟨rfl, hk1⟩; have hb1 := hk1.below; obtain ⟨hc1, hf1⟩ := bcell hb1; simp only [World.size_alloc] at hc1 hf1)
    go_ret
    exact ⟨ret_i64 E.out.symm, by (repeat (first | with_reducible rfl | with_reducible exact Below.refl _ _ | with_reducible exact gro_refl _ | with_reducible refine kc_drew ?_ | with_reducible refine kc_drewN _ ?_ | with_reducible refine kf_drew ?_ | with_reducible refine kf_drewN _ ?_ | with_reducible refine kc_below hb1 ?_ | ((with_reducible refine kc_new ?_ ?_); (focus (first | with_reducible rfl | (simp only [World.size_alloc, World.size_setCell, World.size_drew, size_drewN]; done))); (focus (first | rfl | (simp; done)))) | ((with_reducible refine kc_set0 ?_ ?_); (focus (first | rfl | (simp; done)))) | with_reducible refine ct_drew ?_ | with_reducible refine ct_drewN _ ?_ | with_reducible refine ct_below hb1 ?_ | ((with_reducible refine ct_new ?_ ?_); (focus (first | with_reducible rfl | (simp only [World.size_alloc, World.size_setCell, World.size_drew, size_drewN]; done))); (focus (first | rfl | (simp; done)))) | with_reducible refine ct_set _ _ ?_ | with_reducible refine ct_alloc _ ?_ | ((with_reducible refine kc_set ?_ ?_); (focus (first | (intro hx; injection hx; omega) | (simp; done)))) | with_reducible refine kc_alloc _ ?_ | ((with_reducible refine kf_new ?_ _); (focus (first | with_reducible rfl | (simp only [World.size_alloc, World.size_setCell, World.size_drew, size_drewN]; done)))) | with_reducible refine kf_set _ _ ?_ | ((with_reducible refine kf_below hb1 ?_ ?_); (focus (simp only [World.size_alloc, World.size_setCell, World.size_drew, size_drewN]; omega))) | ((with_reducible refine kf_alloc _ ?_ ?_); (focus (first | (simp only [World.size_alloc, World.size_setCell, World.size_drew, size_drewN]; omega) | (dsimp only; omega)))) | with_reducible refine bl_alloc ?_ _ | with_reducible refine bl_drew ?_ | with_reducible refine bl_drewN ?_ _ | ((with_reducible refine bl_set ?_ ?_ _); (focus (dsimp only; omega))) | with_reducible refine bl_call ?_ hb1 | with_reducible refine gro_alloc ?_ _ | with_reducible refine gro_drew ?_ | with_reducible refine gro_drewN ?_ _ | ((with_reducible refine gro_set ?_ ?_ _); (focus (first | omega | (dsimp only; omega)))) | with_reducible refine gro_call ?_ hk1))⟩
end Go.Proofs.Ytoenimkgagndnaa

/- The plain side of Exact: the sides of a search hold the best one of each product. -/
namespace Go.Proofs.Ytoenimkgagndnaa
set_option linter.unusedVariables false
set_option linter.unusedSimpArgs false
open Go.RowKit Go.Shelf Go.Lib Go.Sort

theorem keep_rep (d : Array Side) : ∀ i, ∃ j, j ≤ i ∧ keepAt d j = true ∧ d[j]!.p = d[i]!.p
  | 0 => ⟨0, Nat.le_refl _, by simp [keepAt], rfl⟩
  | i + 1 => by
    cases h : keepAt d (i + 1) with
    | true => exact ⟨i + 1, Nat.le_refl _, h, rfl⟩
    | false =>
      obtain ⟨j, h1, h2, h3⟩ := keep_rep d i
      refine ⟨j, by omega, h2, h3.trans ?_⟩
      unfold keepAt at h
      simp at h
      exact h.symm

theorem srt_get {l : List Side} {j : Nat} (hj : j < l.length) : (srt l).toArray[j]! = (srt l)[j]'(by rw [srt_len]; exact hj) := by
  rw [getElem!_pos _ j (by simp [srt_len]; exact hj)]; simp
theorem srt_mono {l : List Side} {i j : Nat} (h : i ≤ j) (hj : j < l.length) : (srt l).toArray[i]!.p ≤ (srt l).toArray[j]!.p := by
  rw [srt_get hj, srt_get (by omega)]
  rcases Nat.lt_or_ge i j with k | k
  · exact List.pairwise_iff_getElem.1 (srt_pair l) i j _ _ k
  · obtain rfl : i = j := by omega
    exact Int.le_refl _
theorem srt_ord (l : List Side) : (srt l).Pairwise fun x y => ltOf cmpS y x = false := by
  have h := List.pairwise_mergeSort (le := fun x y => !(ltOf cmpS) y x) (fun a b c h1 h2 => by
      simp only [Bool.not_eq_true'] at *
      exact swoS.ntrans c b a h2 h1) (fun a b => by
      simp only [Bool.or_eq_true, Bool.not_eq_true']
      cases e : ltOf cmpS b a with
      | false => exact .inl rfl
      | true =>
        refine .inr ?_
        cases e2 : ltOf cmpS a b with
        | false => rfl
        | true => exact absurd (swoS.trans a b a e2 e) (by rw [swoS.irrefl]; simp)) l
  exact h.imp fun {x y} hxy => by simpa using hxy
theorem srt_nlt {l : List Side} {i j : Nat} (h : i ≤ j) (hj : j < l.length) : ltOf cmpS (srt l).toArray[j]! (srt l).toArray[i]! = false := by
  rw [srt_get hj, srt_get (by omega)]
  rcases Nat.lt_or_ge i j with k | k
  · exact List.pairwise_iff_getElem.1 (srt_ord l) i j _ _ k
  · obtain rfl : i = j := by omega
    exact swoS.irrefl _

/-- Of every side there is one of the same product in the search that it is not before. -/
theorem sidesL_rep {low high : Int} {st : Nat} {r : Bool} {s : Side} (h : s ∈ gen low high r st) : ∃ x ∈ sidesL low high st r, x.p = s.p ∧ ltOf cmpS s x = false := by
  obtain ⟨i, hi, rfl⟩ := List.mem_iff_getElem.1 (srt_mem.2 h)
  have hi' : i < (gen low high r st).length := by rwa [srt_len] at hi
  obtain ⟨j, hj, hk, hp⟩ := keep_rep (srt (gen low high r st)).toArray i
  refine ⟨(srt (gen low high r st)).toArray[j]!, ?_, ?_, ?_⟩
  · unfold sidesL cmpL
    exact List.mem_map.2 ⟨j, List.mem_filter.2 ⟨List.mem_range.2 (by omega), hk⟩, rfl⟩
  · rw [hp, srt_get hi']
  · have := srt_nlt hj hi'
    rwa [srt_get hi'] at this

/-- The products of the sides of a search rise. -/
theorem sidesL_strict (low high : Int) (st : Nat) (r : Bool) : (sidesL low high st r).Pairwise fun x y => x.p < y.p := by
  unfold sidesL cmpL
  rw [List.pairwise_map, List.pairwise_filter]
  refine (List.pairwise_lt_range (n := (gen low high r st).length)).imp_of_mem fun {i j} _ hj hij _ hkj => ?_
  have hj' : j < (gen low high r st).length := List.mem_range.1 hj
  have h1 := srt_mono (l := gen low high r st) (show i ≤ j - 1 by omega) (by omega)
  have h2 := srt_mono (l := gen low high r st) (show j - 1 ≤ j by omega) hj'
  unfold keepAt at hkj
  simp at hkj
  have h3 : (srt (gen low high r st)).toArray[j]!.p ≠ (srt (gen low high r st)).toArray[j - 1]!.p := by
    rcases hkj with rfl | h
    · omega
    · simpa using h
  omega
end Go.Proofs.Ytoenimkgagndnaa

/- The plain side of Exact: what the search picks. -/
namespace Go.Proofs.Ytoenimkgagndnaa
set_option linter.unusedVariables false
set_option linter.unusedSimpArgs false
open Go.RowKit Go.Shelf Go.Lib Go.Sort

theorem bang_get {l : List Side} {i : Nat} (h : i < l.length) : l.toArray[i]! = l[i] := by
  rw [getElem!_pos _ i (by simpa using h)]; simp

theorem countP_le (n i : Nat) (h : i < n) (f : Nat → Bool) (hf : ∀ j, j < n → (f j = true ↔ j ≤ i)) : (List.range n).countP f = i + 1 := by
  have e : (List.range n).countP f = (List.range n).countP fun j => decide (j < i + 1) := by
    refine List.countP_congr fun j hj => ?_
    rw [hf j (List.mem_range.1 hj)]
    simp
    omega
  rw [e]
  clear e hf f
  induction n with
  | zero => omega
  | succ n ih =>
    rw [List.range_succ, List.countP_append]
    rcases Nat.lt_or_ge i n with k | k
    · rw [ih k]
      simp
      omega
    · obtain rfl : i = n := by omega
      have : (List.range i).countP (fun j => decide (j < i + 1)) = (List.range i).length := List.countP_eq_length.2 fun j hj => by
        have := List.mem_range.1 hj
        simp; omega
      rw [this]
      simp

theorem above_exact {ws : List Side} (hs : ws.Pairwise fun x y => x.p < y.p) (x : Side) {tn td : Int} (hd : 1 ≤ td) {i : Nat} (hi : i < ws.length) (he : ws[i].p * td = tn * x.p) : aboveN ws x tn td = i + 1 := by
  unfold aboveN
  refine countP_le _ i hi _ fun j hj => ?_
  unfold aboveB cmpF
  rw [bang_get hj, ← he]
  have h := cmpZ_cases (ws[j].p * td) (ws[i].p * td)
  rcases Nat.lt_trichotomy j i with k | k | k
  · have h1 := List.pairwise_iff_getElem.1 hs j i hj hi k
    have h2 := Int.mul_lt_mul_of_pos_right h1 (show 0 < td by omega)
    simp
    omega
  · subst k
    simp
    omega
  · have h1 := List.pairwise_iff_getElem.1 hs i j hi hj k
    have h2 := Int.mul_lt_mul_of_pos_right h1 (show 0 < td by omega)
    simp
    omega

/-- A train of the exact ratio is given out, if its sides are those of the search. -/
theorem trains_exact {st : Nat} {ws ps : List Side} (hs : ws.Pairwise fun x y => x.p < y.p) {tn td : Int} (hd : 1 ≤ td) {w x : Side} (hw : w ∈ ws) (hx : x ∈ ps) (he : w.p * td = tn * x.p) : (⟨(st : Int), w, x⟩ : Tr) ∈ trainsL st ws ps tn td := by
  obtain ⟨i, hi, rfl⟩ := List.mem_iff_getElem.1 hw
  have ha := above_exact hs x hd hi he
  unfold trainsL
  refine List.mem_flatMap.2 ⟨x, hx, ?_⟩
  unfold win winTo winLo winHi
  rw [ha]
  refine List.mem_map.2 ⟨0, List.mem_range.2 (by omega), ?_⟩
  have := bang_get hi
  simp only [Nat.add_sub_cancel, Nat.add_zero]
  rw [this]

theorem trains_sides {st : Nat} {ws ps : List Side} {tn td : Int} {t : Tr} (h : t ∈ trainsL st ws ps tn td) : t.n = st ∧ t.w ∈ ws ∧ t.p ∈ ps := by
  unfold trainsL at h
  obtain ⟨x, hx, h⟩ := List.mem_flatMap.1 h
  unfold win winTo at h
  obtain ⟨k, hk, rfl⟩ := List.mem_map.1 h
  have hk' := List.mem_range.1 hk
  have hl : winLo ws x tn td + k < ws.length := by unfold winHi at hk'; omega
  refine ⟨rfl, ?_, hx⟩
  show ws.toArray[_]! ∈ ws
  rw [bang_get hl]
  exact List.getElem_mem hl

/-- The train's ratio is the target. -/
def isR (tn td : Int) (t : Tr) : Bool := quoN t.w.p t.p.p == tn && quoD t.w.p t.p.p == td
def stepE (tn td : Int) (b t : Tr) : Tr := if (isR tn td t && (b.n == 0 || betF t b)) = true then t else b
def zeroTr : Tr := ⟨0, ⟨0, 0, 0, 0, 0⟩, ⟨0, 0, 0, 0, 0⟩⟩
def bestE (tn td : Int) (l : List Tr) : Tr := l.foldl (stepE tn td) zeroTr
theorem bestE_snoc (tn td : Int) (l : List Tr) (t : Tr) : bestE tn td (l ++ [t]) = stepE tn td (bestE tn td l) t := by simp [bestE]

/-- The order of trains. -/
def Tr.lt (t u : Tr) : Prop := t.n < u.n ∨ (t.n = u.n ∧ (t.w.s + t.p.s < u.w.s + u.p.s ∨ (t.w.s + t.p.s = u.w.s + u.p.s ∧
  (t.w.a < u.w.a ∨ (t.w.a = u.w.a ∧ (t.w.b < u.w.b ∨ (t.w.b = u.w.b ∧ (t.w.c < u.w.c ∨ (t.w.c = u.w.c ∧
  (t.p.a < u.p.a ∨ (t.p.a = u.p.a ∧ (t.p.b < u.p.b ∨ (t.p.b = u.p.b ∧ t.p.c < u.p.c)))))))))))))
theorem lex3_lt (a b c a' b' c' : Int) : lex3 a b c a' b' c' < 0 ↔ (a < a' ∨ (a = a' ∧ (b < b' ∨ (b = b' ∧ c < c')))) := by
  unfold lex3
  have h1 := cmpZ_cases a a'
  have h2 := cmpZ_cases b b'
  have h3 := cmpZ_cases c c'
  split
  · omega
  · split <;> omega
theorem lex3_ne (a b c a' b' c' : Int) : lex3 a b c a' b' c' ≠ 0 ↔ (a ≠ a' ∨ b ≠ b' ∨ c ≠ c') := by
  unfold lex3
  have h1 := cmpZ_cases a a'
  have h2 := cmpZ_cases b b'
  have h3 := cmpZ_cases c c'
  split
  · omega
  · split <;> omega
theorem betF_iff (t u : Tr) : betF t u = true ↔ t.lt u := by
  unfold betF Tr.lt
  have h1 := lex3_lt t.w.a t.w.b t.w.c u.w.a u.w.b u.w.c
  have h2 := lex3_ne t.w.a t.w.b t.w.c u.w.a u.w.b u.w.c
  have h3 := lex3_lt t.p.a t.p.b t.p.c u.p.a u.p.b u.p.c
  split
  · rw [decide_eq_true_iff]; omega
  · split
    · rw [decide_eq_true_iff]; omega
    · split
      · rename_i h; rw [decide_eq_true_iff, h1]; rw [h2] at h; omega
      · rename_i h; rw [decide_eq_true_iff, h3]; rw [h2] at h; omega

theorem snoc_ind {α : Type} {P : List α → Prop} (h0 : P []) (h1 : ∀ l t, P l → P (l ++ [t])) (l : List α) : P l := by
  have h : ∀ m : List α, P m.reverse := fun m => by
    induction m with
    | nil => exact h0
    | cons a m ih => rw [List.reverse_cons]; exact h1 _ _ ih
  have := h l.reverse
  rwa [List.reverse_reverse] at this

/-- What the search has picked out of a list of trains. -/
def Pick (tn td : Int) (l : List Tr) (b : Tr) : Prop :=
  (b.n = 0 ∧ b = zeroTr ∧ ∀ t ∈ l, isR tn td t = false) ∨ (1 ≤ b.n ∧ b ∈ l ∧ isR tn td b = true ∧ ∀ t ∈ l, isR tn td t = true → betF t b = false)
theorem bestE_spec (tn td : Int) (l : List Tr) (hn : ∀ t ∈ l, 1 ≤ t.n) : Pick tn td l (bestE tn td l) := by
  revert hn
  refine snoc_ind (P := fun l => (∀ t ∈ l, 1 ≤ t.n) → Pick tn td l (bestE tn td l)) ?_ ?_ l
  · exact fun _ => .inl ⟨rfl, rfl, fun t ht => by cases ht⟩
  · intro l t ih hn
    have ih := ih fun t ht => hn t (List.mem_append_left _ ht)
    have h1 := hn t (by simp)
    rw [bestE_snoc]
    unfold stepE
    rcases ih with ⟨i0, iz, i1⟩ | ⟨i0, i1, i2, i3⟩
    · cases hr : isR tn td t
      · simp only [Bool.false_and, Bool.false_eq_true, if_false]
        refine .inl ⟨i0, iz, fun u hu => ?_⟩
        rcases List.mem_append.1 hu with h | h
        · exact i1 u h
        · rw [List.mem_singleton.1 h]; exact hr
      · have hb : ((bestE tn td l).n == 0) = true := by simpa using i0
        simp only [hb, Bool.true_and, Bool.true_or, if_true]
        refine .inr ⟨h1, by simp, hr, fun u hu hur => ?_⟩
        rcases List.mem_append.1 hu with h | h
        · rw [i1 u h] at hur; cases hur
        · rw [List.mem_singleton.1 h]
          cases hbt : betF t t with
          | false => rfl
          | true => rw [betF_iff] at hbt; unfold Tr.lt at hbt; omega
    · have hb : ((bestE tn td l).n == 0) = false := by simp; omega
      simp only [hb, Bool.false_or]
      cases hr : isR tn td t
      · simp only [Bool.false_and, Bool.false_eq_true, if_false]
        refine .inr ⟨i0, List.mem_append_left _ i1, i2, fun u hu hur => ?_⟩
        rcases List.mem_append.1 hu with h | h
        · exact i3 u h hur
        · rw [List.mem_singleton.1 h, hr] at hur; cases hur
      · cases hbt : betF t (bestE tn td l)
        · simp only [Bool.true_and, Bool.false_eq_true, if_false]
          refine .inr ⟨i0, List.mem_append_left _ i1, i2, fun u hu hur => ?_⟩
          rcases List.mem_append.1 hu with h | h
          · exact i3 u h hur
          · rw [List.mem_singleton.1 h]; exact hbt
        · simp only [Bool.true_and, if_true]
          refine .inr ⟨h1, by simp, hr, fun u hu hur => ?_⟩
          rw [betF_iff] at hbt
          cases hut : betF u t with
          | false => rfl
          | true =>
            rw [betF_iff] at hut
            rcases List.mem_append.1 hu with h | h
            · have := i3 u h hur
              have h2 : betF u (bestE tn td l) = true := by rw [betF_iff]; unfold Tr.lt at *; omega
              rw [h2] at this; cases this
            · rw [List.mem_singleton.1 h] at hut; unfold Tr.lt at hut; omega
end Go.Proofs.Ytoenimkgagndnaa

/- Trains in bounds: what the loop's body may know of a train that it is handed. -/
namespace Go.Proofs.Ytoenimkgagndnaa
set_option linter.unusedVariables false
set_option linter.unusedSimpArgs false
open Go.RowKit Go.Shelf Go.Lib Go.Sort

instance (t : Tr) : Decidable (t.ok ∧ t.sok ∧ 1 ≤ t.n) := by unfold Tr.ok Tr.sok; infer_instance
def safeTr : Tr := ⟨1, ⟨0, 0, 0, 1, 0⟩, ⟨0, 0, 0, 1, 0⟩⟩
def clampT (t : Tr) : Tr := if t.ok ∧ t.sok ∧ 1 ≤ t.n then t else safeTr
theorem clamp_ok (t : Tr) : (clampT t).ok ∧ (clampT t).sok ∧ 1 ≤ (clampT t).n := by
  unfold clampT
  split
  · assumption
  · decide
theorem clamp_eq {t : Tr} (h : t.ok ∧ t.sok ∧ 1 ≤ t.n) : clampT t = t := if_pos h

theorem sidesL_s {low high : Int} {st : Nat} {r : Bool} (h1 : 1 ≤ low) (h2 : low ≤ high) (h3 : high ≤ 200) (hst : st ≤ 3) {x : Side} (hx : x ∈ sidesL low high st r) : 0 ≤ x.s ∧ x.s ≤ 600 := by
  obtain ⟨_, _, _, g3, g4⟩ := gen_good h2 h1 h3 st hst x (sidesL_mem hx)
  omega
theorem clamp_mem {wl wh pl ph : Int} {st : Nat} (w1 : 1 ≤ wl) (w2 : wl ≤ wh) (w3 : wh ≤ 200) (p1 : 1 ≤ pl) (p2 : pl ≤ ph) (p3 : ph ≤ 200) (hst : st ≤ 3) (hst1 : 1 ≤ st) (tn td : Int) :
    ∀ t ∈ trainsL st (sidesL wl wh st false) (sidesL pl ph st true) tn td, clampT t = t := fun t ht => by
  obtain ⟨hn, hw, hp⟩ := trains_sides ht
  exact clamp_eq ⟨⟨sidesL_p w1 w2 w3 hst hw, (sidesL_p p1 p2 p3 hst hp).1, (sidesL_p p1 p2 p3 hst hp).2⟩, ⟨sidesL_s w1 w2 w3 hst hw, (sidesL_s p1 p2 p3 hst hp).1, (sidesL_s p1 p2 p3 hst hp).2⟩, by omega⟩
theorem best_clamp (tn td : Int) (l : List Tr) : (bestE tn td (l.map clampT)).sok ∧ (bestE tn td (l.map clampT) = zeroTr ∨ 1 ≤ (bestE tn td (l.map clampT)).n) := by
  refine snoc_ind (P := fun l => (bestE tn td (l.map clampT)).sok ∧ (bestE tn td (l.map clampT) = zeroTr ∨ 1 ≤ (bestE tn td (l.map clampT)).n)) ?_ ?_ l
  · exact ⟨(show zeroTr.sok from ⟨by decide, by decide⟩), .inl rfl⟩
  · intro l t ih
    rw [List.map_append, List.map_singleton, bestE_snoc]
    unfold stepE
    split
    · exact ⟨(clamp_ok t).2.1, .inr (clamp_ok t).2.2⟩
    · exact ih
theorem map_clamp {l : List Tr} (h : ∀ t ∈ l, clampT t = t) : l.map clampT = l := by
  rw [List.map_congr_left h, List.map_id']
end Go.Proofs.Ytoenimkgagndnaa

/- A region that draws its order, its first operations still, the rest in one forced order: inside a fence that lets every function by. -/
namespace Go.Proofs.Ytoenimkgagndnaa
set_option linter.unusedVariables false
set_option linter.unusedSimpArgs false
open Go

/-- A fence that lets every function by, at whatever depth. -/
structure Open (F : Fence) (n : Nat) : Prop where
  fn : ∀ f, F.fn f
  depth : F.depth.isSome = true → 1 ≤ n
  calls : ∀ P f args w R, Calls P f args w R → CallsIn F (n - 1) P f args w R

theorem open_wide (n : Nat) : Open Fence.wide n := ⟨fun _ => trivial, fun h => (by cases h), fun _ _ _ _ _ h => callsIn_wide.2 h⟩
theorem open_round (n l : Nat) : Open (Fence.wide.inRound l) n := ⟨fun _ => trivial, fun h => (by cases h), fun _ _ _ _ _ h => CallsIn.inRound l (callsIn_wide.2 h)⟩

/-- No deferred call among the operations. -/
def noDefer (ops : Array Oper) : Bool := ops.all fun o => match o.op with | .defer _ => false | _ => true
theorem noDefer_spec {ops : Array Oper} (h : noDefer ops = true) {i : Nat} {o : Oper} (ho : ops[i]? = some o) : ∀ c, o.op ≠ .defer c := by
  intro c hc
  obtain ⟨hi, rfl⟩ := Array.getElem?_eq_some_iff.1 ho
  unfold noDefer at h
  rw [Array.all_eq_true] at h
  have := h i hi
  rw [hc] at this
  cases this

section
variable {F : Fence} {n : Nat} {P : Program} {ops : Array Oper} {md : Region.Mode} {w : World}

theorem wpIn_of_still (hF : Open F n) {o : Oper} {a : Act} {K : Act → Prop} {Q : Exit → Act → World → Prop} (hd : ∀ c, o.op ≠ .defer c) (h : o.still P a w K) : o.wpIn F n P a w (fun a' w' => w' = w ∧ K a') Q := by
  unfold Oper.wpIn
  refine ⟨fun f _ => hF.fn f, ?_⟩
  rw [Oper.semAt_eq _ _ _ hd]
  unfold Oper.still at h
  generalize (execOp a.eval o).run P w = r at *
  cases r with
  | ok x w' =>
    cases x <;> simp only [Oper.stillUpon, Oper.uponIn] at h ⊢
    case value v => exact h
    case skip => exact h
    case enter f args =>
      obtain ⟨rfl, v, hc, hn⟩ := h
      exact ⟨hF.depth, (hF.calls _ _ _ _ _ hc).mono fun e w'' ⟨he, hw⟩ => by subst he; exact ⟨hw, hn⟩⟩
  | halt x w' => cases x <;> simp only [Oper.stillUpon] at h

theorem wpOpIn_of_stOp (hF : Open F n) (hnd : noDefer ops = true) {Q : Exit → Act → World → Prop} {i : Nat} {K : Act → Prop} {K' : Act → World → Prop} {a : Act} (hK : ∀ a, K a → K' a w) (h : stOp P ops w i K a) : wpOpIn F n P ops Q i K' a w := by
  unfold stOp at h
  unfold wpOpIn
  cases ho : ops[i]? with
  | none => simp only [ho] at h ⊢; exact hK _ h
  | some o =>
    simp only [ho] at h ⊢
    split
    · rename_i hw
      simp only [hw, if_true] at h
      exact Oper.wpIn_mono (fun a' w' ⟨hw', hk⟩ => by subst hw'; exact hK _ hk) (wpIn_of_still hF (noDefer_spec hnd ho) h)
    · rename_i hw
      simp only [hw] at h
      exact ⟨fun f _ => hF.fn f, hK _ h⟩

theorem wpAnyIn_of_head (hF : Open F n) (hnd : noDefer ops = true) {k g : Nat} {L : Array Bool → Act → Prop} {Q : Exit → Act → World → Prop} (hL : ∀ listed a, L listed a → wpAnyIn F n P md ops Q g listed a w) :
    ∀ (f : Nat) (listed : Array Bool) (a : Act), wpAnyL P md ops w k L f listed a → wpAnyIn F n P md ops Q (f + g) listed a w
  | 0, listed, a, h => by rw [Nat.zero_add]; exact hL _ _ h
  | f + 1, listed, a, h => by
    rw [show f + 1 + g = (f + g) + 1 by omega]
    exact ⟨fun h0 => absurd h0 h.1, fun i hi => wpOpIn_of_stOp hF hnd (fun a' h' => wpAnyIn_of_head hF hnd hL f _ a' h') (h.2 i hi).2⟩

theorem wpAnyIn_of_seq {Q : Exit → Act → World → Prop} : ∀ (l : List Oper) (k : Nat) (listed : Array Bool) (a : Act) (w : World), (∀ j, l[j]? = ops[k + j]?) →
    Region.seqB md ops l.length k listed = true → wpListIn F n P ops Q l a w → wpAnyIn F n P md ops Q l.length listed a w
  | [], _, _, _, _, _, hB, h => ⟨by simpa [Region.seqB] using hB, h⟩
  | o :: l, k, listed, a, w, hl, hB, h => by
    have h0 : ops[k]? = some o := by simpa using (hl 0).symm
    simp only [List.length_cons, Region.seqB, Bool.and_eq_true, decide_eq_true_eq] at hB
    refine ⟨fun h1 => (by rw [hB.1] at h1; cases h1), fun i hi => ?_⟩
    rw [hB.1] at hi
    have hik : i = k := by simpa using hi
    subst hik
    have hw : wpOpIn F n P ops Q i (wpListIn F n P ops Q l) a w := by unfold wpOpIn; simp only [h0]; exact h
    exact wpOpIn_mono (fun a' w' h' => wpAnyIn_of_seq l (i + 1) _ a' w' (fun j => by have := hl (j + 1); simpa [Nat.add_assoc, Nat.add_comm 1 j] using this) hB.2 h') hw
end

theorem still_tail_in {F : Fence} {n : Nat} {P : Program} {id : Nat} {Q : Exit → Act → World → Prop} {a : Act} {w : World} {l : List Oper} (hF : Open F n) (k : Nat) (hm : P.follows .mixedOrders = true) (hB : Region.lexTailB .any l.toArray k = true) (hnd : noDefer l.toArray = true)
    (h : wpStill P l.toArray w.drew (fun a' => wpListIn F n P l.toArray Q (l.drop k) a' w.drew) (l.take k) a) : (Code.region id l.toArray true).wpIn F n P Q a w := by
  simp only [Region.lexTailB, Bool.and_eq_true, decide_eq_true_eq] at hB
  obtain ⟨⟨⟨⟨hsel, hn⟩, hs⟩, hc⟩, hlex⟩ := hB
  have hn' : k < l.length := by simpa using hn
  have htl : (l.take k).length = k := by simp; omega
  have hdl : (l.drop k).length = l.toArray.size - k := by simp
  have inv0 : HeadInv .any l.toArray k (Array.replicate l.toArray.size false) :=
    ⟨by simp, fun j oj _ hl => (by rw [getD_replicate_false] at hl; cases hl), fun t _ ht => getD_in (by simpa using ht) (getD_replicate_false _ _)⟩
  have H := wpAnyL_lex (md := .any) (g := l.toArray.size - k) hsel hs hc hn (l.take k) 0 _ a (fun j hj => by
    have hj' : j < k := by rw [htl] at hj; exact hj
    simp [hj']) (by simpa using htl) inv0 (by rw [htl]; exact hlex) h
  refine wpIn_region_any hm ?_
  rw [htl] at H
  have hsz : l.toArray.size = k + (l.toArray.size - k) := by omega
  have := wpAnyIn_of_head (F := F) (n := n) hF hnd (g := l.toArray.size - k) (Q := Q) (fun listed a' ⟨hseq, hw⟩ => by
    have hw' := wpAnyIn_of_seq (F := F) (n := n) (md := .any) (ops := l.toArray) (l.drop k) k listed a' w.drew (fun j => by simp) (by rw [hdl]; exact hseq) hw
    rw [hdl] at hw'
    exact hw') k _ a H
  rw [← hsz] at this
  exact this
end Go.Proofs.Ytoenimkgagndnaa

/- gear.trains: the iterator, for every loop body that writes one block of its own alone. -/
namespace Go.Proofs.Ytoenimkgagndnaa
set_option linter.unusedVariables false
set_option linter.unusedSimpArgs false
open Go.RowKit Go.Shelf Go.Lib Go.Sort
attribute [local go_sem] Oper.semAt_some

/-- What a round keeps: all cells but those of block bb. -/
def KpB (bb : Nat) (W W' : World) : Prop := W.heap.size ≤ W'.heap.size ∧ ∀ k cs e fr, k ≠ bb → W.heap[k]? = some (.cells cs e fr) → W'.heap[k]? = W.heap[k]?
theorem kp_trans {bb : Nat} {A B C : World} (h : KpB bb A B) (k : KpB bb B C) : KpB bb A C :=
  ⟨Nat.le_trans h.1 k.1, fun i cs e fr hi hc => by
    have h1 := h.2 i cs e fr hi hc
    exact (k.2 i cs e fr hi (h1.trans hc)).trans h1⟩
theorem kp_put {bb : Nat} (W : World) (l : Nat) (o o' : Obj) (h : W.heap[l]? = some o) (hc : o.isCells = false) : KpB bb W (W.putObj l o') := by
  refine ⟨by simp [World.putObj], fun k cs e fr _ hk => World.putObj_heap_other ?_⟩
  rintro rfl
  rw [h] at hk
  cases hk
  cases hc
theorem kp_cell {bb : Nat} {W W' : World} (h : KpB bb W W') {a : Addr} {v : Value} (ha : a.block ≠ bb) (hv : W.cell? a = some v) : W'.cell? a = some v := by
  rw [← hv]
  refine World.cell?_of_block ?_
  unfold World.cell? at hv
  cases ho : W.heap[a.block]? with
  | none => simp [ho] at hv
  | some o =>
    cases o with
    | cells cs e fr => exact (h.2 _ cs e fr ha ho).trans ho
    | _ => simp [ho] at hv
theorem kp_frozen {bb : Nat} {W W' : World} (h : KpB bb W W') {a : Addr} {v : Value} (ha : a.block ≠ bb) (hv : W.cell? a = some v) : W'.frozen? a = W.frozen? a := by
  refine World.frozen?_of_block ?_
  unfold World.cell? at hv
  cases ho : W.heap[a.block]? with
  | none => simp [ho] at hv
  | some o =>
    cases o with
    | cells cs e fr => exact (h.2 _ cs e fr ha ho).trans ho
    | _ => simp [ho] at hv
theorem kp_holds {bb : Nat} {W W' : World} {g : Nat} {d : Array Side} (h : KpB bb W W') (hg : g ≠ bb) (hH : HoldsK Side.enc 5 W g 0 d) : HoldsK Side.enc 5 W' g 0 d := fun j hj =>
  ⟨kp_cell h hg (hH j hj).1, (kp_frozen h hg (hH j hj).1).trans (hH j hj).2⟩
theorem kp_box {bb : Nat} {W W' : World} {b : Nat} {x : Side} (h : KpB bb W W') (hg : b ≠ bb) (hx : box5 W b x) : box5 W' b x := box5_map hx fun _ _ hu => kp_cell h hg hu

/-- What the iterator has captured. -/
structure Cap (W : World) (bl bs bt : Nat) (wl wh pl ph : Int) (st : Nat) (tn td : Int) : Prop where
  l0 : W.cell? ⟨bl, 0, none⟩ = some (.int .i64 wl)
  l1 : W.cell? ⟨bl, 1, none⟩ = some (.int .i64 wh)
  l2 : W.cell? ⟨bl, 2, none⟩ = some (.int .i64 pl)
  l3 : W.cell? ⟨bl, 3, none⟩ = some (.int .i64 ph)
  s : W.cell? ⟨bs, 0, none⟩ = some (.int .i64 st)
  t : fAt W bt tn td
theorem Cap.map {W W1 : World} {bl bs bt : Nat} {wl wh pl ph : Int} {st : Nat} {tn td : Int} (h : Cap W bl bs bt wl wh pl ph st tn td)
    (hk : ∀ b i v, (b = bl ∨ b = bs ∨ b = bt) → W.cell? ⟨b, i, none⟩ = some v → W1.cell? ⟨b, i, none⟩ = some v) : Cap W1 bl bs bt wl wh pl ph st tn td :=
  ⟨hk _ _ _ (.inl rfl) h.l0, hk _ _ _ (.inl rfl) h.l1, hk _ _ _ (.inl rfl) h.l2, hk _ _ _ (.inl rfl) h.l3, hk _ _ _ (.inr (.inl rfl)) h.s, hk _ _ _ (.inr (.inr rfl)) h.t.1, hk _ _ _ (.inr (.inr rfl)) h.t.2⟩

/-- Between two rounds: the wheels' sides, the pinions' sides, what was captured. -/
structure It (bb bl bs bt bw gw cw gp : Nat) (wl wh pl ph : Int) (st : Nat) (tn td : Int) (ws ps : List Side) (W : World) : Prop where
  cap : Cap W bl bs bt wl wh pl ph st tn td
  nl : bl ≠ bb
  ns : bs ≠ bb
  nt : bt ≠ bb
  nw : bw ≠ bb
  ng : gw ≠ bb
  np : gp ≠ bb
  gl : gw < W.heap.size
  pl : gp < W.heap.size
  box : W.cell? ⟨bw, 0, none⟩ = some (.slice (some ⟨gw, 0, none⟩) ws.length cw)
  row : HoldsK Side.enc 5 W gw 0 ws.toArray
  prow : HoldsK Side.enc 5 W gp 0 ps.toArray
section
variable {bb bl bs bt bw gw cw gp : Nat} {wl wh pl ph : Int} {st : Nat} {tn td : Int} {ws ps : List Side} {W W1 : World}
theorem It.kp (h : It bb bl bs bt bw gw cw gp wl wh pl ph st tn td ws ps W) (k : KpB bb W W1) : It bb bl bs bt bw gw cw gp wl wh pl ph st tn td ws ps W1 :=
  ⟨h.cap.map fun b i v hb hv => kp_cell k (by rcases hb with rfl | rfl | rfl <;> first | exact h.nl | exact h.ns | exact h.nt) hv, h.nl, h.ns, h.nt, h.nw, h.ng, h.np, Nat.lt_of_lt_of_le h.gl k.1, Nat.lt_of_lt_of_le h.pl k.1, kp_cell k h.nw h.box, kp_holds k h.ng h.row, kp_holds k h.np h.prow⟩
theorem It.below (h : It bb bl bs bt bw gw cw gp wl wh pl ph st tn td ws ps W) (k : Below W.heap.size W W1) : It bb bl bs bt bw gw cw gp wl wh pl ph st tn td ws ps W1 :=
  ⟨h.cap.map fun b i v _ hv => kc_below k hv, h.nl, h.ns, h.nt, h.nw, h.ng, h.np, Nat.lt_of_lt_of_le h.gl k.size, Nat.lt_of_lt_of_le h.pl k.size, kc_below k h.box, holdsK_below k h.gl h.row, holdsK_below k h.pl h.prow⟩
end

theorem search_any (bw bp bt g cap : Nat) (ws : List Side) (x : Side) (tn td : Int) (W : World) (h : Seen W bw bp bt g cap ws.toArray x tn td) (hg : g < W.heap.size) (hr : Rows ws) (hx : 1 ≤ x.p) (hx' : x.p ≤ 8000000)
    (ht : -4611686018427387904 ≤ tn) (ht' : tn ≤ 4611686018427387904) (hu : 1 ≤ td) (hu' : td ≤ 4611686018427387904) :
    Calls Try.prog 106 #[.int .i64 ws.length, .func (.func 107) #[] #[.pointer (some ⟨bw, 0, none⟩), .pointer (some ⟨bp, 0, none⟩), .pointer (some ⟨bt, 0, none⟩)]] W fun e w' =>
      e = .returned (.int .i64 (aboveN ws x tn td)) ∧ Gro W w' := by
  have eg : ∀ args w, (callFunc 107 args).run Try.prog w = .ok (.enter 107 args) w := enters_of Try.func107 (by kernel_rfl) rfl
  have hl := hr.len
  have hcon := Any.sort_Search Try.searchS 107 #[.pointer (some ⟨bw, 0, none⟩), .pointer (some ⟨bp, 0, none⟩), .pointer (some ⟨bt, 0, none⟩)] ws.length (aboveB ws.toArray x.p tn td) W eg (by omega)
    (fun m os i hi => by
      have hs := h.below hg (below_grow W m os)
      exact closure_any bw bp bt g cap ws.toArray x tn td _ hs i (by simpa using hi) (by simp; omega) (fun j hj => by
        have hj' : j < ws.length := by simpa using hj
        have e : ws.toArray[j]! = ws[j] := by rw [getElem!_pos _ j hj]; simp
        rw [e]
        exact hr.p _ (List.getElem_mem hj')) hx hx' ht ht' hu hu')
    (hr.above hx hu)
  change Calls Try.prog 106 _ _ _ at hcon
  exact hcon

theorem abide {J : List Tr → World → Prop} {B : Nat} (hJ : AbidesFrom B J) {pre : List Tr} {A C : World} (h : J pre A) (hb : Below A.heap.size A C) : J pre C :=
  hJ pre A C none h ⟨hb.os, hb.tape, hb.output, hb.size, fun k hk _ => hb.block k hk⟩ (fun r e => by cases e)

set_option maxHeartbeats 4000000 in
set_option maxRecDepth 100000 in
theorem trains_stops (n : Nat) (hn : 3 ≤ n) (bb bl bs bt : Nat) (wl wh pl ph : Int) (st : Nat) (tn td : Int) (w : World) (hc : Cap w bl bs bt wl wh pl ph st tn td)
    (hbb : bb < w.heap.size) (nl : bl ≠ bb) (ns : bs ≠ bb) (nt : bt ≠ bb)
    (w1 : 1 ≤ wl) (w2 : wl ≤ wh) (w3 : wh ≤ 200) (w4 : wh - wl < 64) (p1 : 1 ≤ pl) (p2 : pl ≤ ph) (p3 : ph ≤ 200) (p4 : ph - pl < 64) (hst : st ≤ 3) (hst1 : 1 ≤ st)
    (ht : -4611686018427387904 ≤ tn) (ht' : tn ≤ 4611686018427387904) (hu : 1 ≤ td) (hu' : td ≤ 4611686018427387904) :
    SeqStopsK Fence.wide n Try.prog 104 #[.pointer (some ⟨bl, 0, none⟩), .pointer (some ⟨bs, 0, none⟩), .pointer (some ⟨bt, 0, none⟩)] (fun t : Tr => #[(clampT t).val]) (KpB bb)
      (fun xs => xs = trainsL st (sidesL wl wh st false) (sidesL pl ph st true) tn td) (fun pre => pre <+: trainsL st (sidesL wl wh st false) (sidesL pl ph st true) tn td)
      (trainsL st (sidesL wl wh st false) (sidesL pl ph st true) tn td).length w := fun l J Jx W hW hJ hJx hY h0 => by
  have hcW : Cap W bl bs bt wl wh pl ph st tn td := hc.map fun b i v _ hv => kc_below hW hv
  have hbW : bb < W.heap.size := Nat.lt_of_lt_of_le hbb hW.size
  have HC := Lib.hid (clamp_mem w1 w2 w3 p1 p2 p3 hst hst1 tn td)
  have hrw := rows_sides false w1 w2 w3 w4 hst
  have hrp := rows_sides true p1 p2 p3 p4 hst
  have hplen := hrp.len
  have c1 := sides_any wl wh st false W w1 w2 w3 w4 hst
  have c2 := fun W => sides_any pl ph st true W p1 p2 p3 p4 hst
  unfold SidesPost at c1 c2
  generalize sidesL wl wh st false = ws at *
  generalize sidesL pl ph st true = ps at *
  have C1 := Lib.hid c1
  have C2 := Lib.hid c2
  obtain ⟨l0, l1, l2, l3, s0, t0, t1⟩ := hcW
  have HY := Lib.hid hY
  have HJ := Lib.hid hJ
  clear c1 c2 hY hJ
  refine callsIn_of_wp Try.func104 rfl trivial ?_ rfl
  simp only [Try.ntmps104, List.size_toArray, List.length_cons, List.length_nil, Nat.reduceAdd, Nat.reduceSub, Array.replicate_succ, Array.replicate_zero, List.push_toArray, List.append_toArray, List.nil_append, List.cons_append]
  gi_wp2_with fail
  refine ⟨trivial, fun h => (by cases h), ?_⟩
  refine (callsIn_wide.2 C1.out).mono ?_
  rintro e W1 ⟨v, rfl, gw, cw, rfl, hg1, hg2, hHw, hb1⟩
  have hz1 := hb1.size
  have J1 : Hid (J [] W1) := abide HJ.out h0 hb1
  replace l2 := kc_below hb1 l2
  replace l3 := kc_below hb1 l3
  replace s0 := kc_below hb1 s0
  replace t0 := kc_below hb1 t0
  replace t1 := kc_below hb1 t1
  replace l0 := kc_below hb1 l0
  replace l1 := kc_below hb1 l1
  have gl1 : bl < W1.heap.size := World.block_lt_of_cell? _ _ l0
  have gs1 : bs < W1.heap.size := World.block_lt_of_cell? _ _ s0
  have gt1 : bt < W1.heap.size := World.block_lt_of_cell? _ _ t0
  clear hb1 h0
  have HW := Lib.hid hHw
  clear hHw
  gi_wp2_with fail
  refine ⟨trivial, fun h => (by cases h), ?_⟩
  refine (callsIn_wide.2 (C2.out _)).mono ?_
  rintro e W2 ⟨v, rfl, gp, cp, rfl, hg3, hg4, hHp, hb2⟩
  have hz2 := hb2.size
  rw [World.size_alloc] at hg3 hz2
  have IT : Hid (It bb bl bs bt W1.heap.size gw cw gp wl wh pl ph st tn td ws ps W2) :=
    ⟨⟨kc_below hb2 (kc_alloc _ l0), kc_below hb2 (kc_alloc _ l1), kc_below hb2 (kc_alloc _ l2), kc_below hb2 (kc_alloc _ l3), kc_below hb2 (kc_alloc _ s0), kc_below hb2 (kc_alloc _ t0), kc_below hb2 (kc_alloc _ t1)⟩,
      nl, ns, nt, by omega, by omega, by omega, by omega, by omega, kc_below hb2 (kc_new rfl rfl), holdsK_below hb2 (by rw [World.size_alloc]; omega) (holdsK_below (Below.refl _ _ |>.alloc (Nat.le_refl _) _) hg2 HW.out), hHp⟩
  have J2 : Hid (J [] W2) := abide HJ.out (abide HJ.out J1.out (Below.refl _ _ |>.alloc (Nat.le_refl _) _)) hb2
  have hwz : W.heap.size ≤ W2.heap.size := by omega
  clear hb2 hHp HW J1 l0 l1 l2 l3 s0 t0 t1 C1 C2 hz2
  gi_wp2_with fail
  gi_loopw [23] (fun s wr => ∃ j : Nat, j ≤ ps.length ∧ s = .int .i64 j ∧ W.heap.size ≤ wr.heap.size ∧ Hid (It bb bl bs bt W1.heap.size gw cw gp wl wh pl ph st tn td ws ps wr) ∧ Hid (J (trainsTo st ws ps tn td j) wr)) (fun s _ => ps.length - (intOf s).toNat)
  case atStart => exact ⟨0, Nat.zero_le _, rfl, hwz, IT, by show J _ _; simpa [trainsTo] using J2.out⟩
  case round =>
    obtain ⟨j, hj, rfl, hwr, hI, hJr⟩ := hrel
    by_cases hjl : j < ps.length
    · have hxm := hrp.p ps[j] (List.getElem_mem hjl)
      have hc5 := (cells5 hI.out.prow (show j < ps.toArray.size by simpa using hjl)).1
      have ex : ps.toArray[j]! = ps[j] := by rw [getElem!_pos _ j (by simpa using hjl)]; simp
      rw [ex] at hc5
      have HS := Lib.hid (trainsTo_succ st ws ps tn td j hjl)
      have HP := fun k hk => Lib.hid (trainsTo_pre st ws ps tn td j hjl k hk)
      generalize ps[j] = x at *
      obtain ⟨c0, c1, c2, c3, c4⟩ := hc5
      have q0 := hI.out.cap.s
      have q1 := hI.out.box
      have hgl := hI.out.gl
      have k1 : bs < wr.heap.size := World.block_lt_of_cell? _ _ q0
      have k2 : W1.heap.size < wr.heap.size := World.block_lt_of_cell? _ _ q1
      have SE : Hid (Seen (wr.alloc (.cells #[.int .i64 x.a, .int .i64 x.b, .int .i64 x.c, .int .i64 x.p, .int .i64 x.s] 102)) W1.heap.size wr.heap.size bt gw cw ws.toArray x tn td) :=
        ⟨by simpa using kc_alloc _ q1, box5_new _ _ _, ⟨kc_alloc _ hI.out.cap.t.1, kc_alloc _ hI.out.cap.t.2⟩, holdsK_below (Below.refl _ _ |>.alloc (Nat.le_refl _) _) hgl hI.out.row⟩
      have IB : Hid (It bb bl bs bt W1.heap.size gw cw gp wl wh pl ph st tn td ws ps (wr.alloc (.cells #[.int .i64 x.a, .int .i64 x.b, .int .i64 x.c, .int .i64 x.p, .int .i64 x.s] 102))) := hI.out.below (Below.refl _ _ |>.alloc (Nat.le_refl _) _)
      have JB : Hid (J (trainsTo st ws ps tn td j) (wr.alloc (.cells #[.int .i64 x.a, .int .i64 x.b, .int .i64 x.c, .int .i64 x.p, .int .i64 x.s] 102))) := abide HJ.out hJr.out (Below.refl _ _ |>.alloc (Nat.le_refl _) _)
      have BX : Hid (box5 (wr.alloc (.cells #[.int .i64 x.a, .int .i64 x.b, .int .i64 x.c, .int .i64 x.p, .int .i64 x.s] 102)) wr.heap.size x) := box5_new _ _ _
      have hnb : wr.heap.size ≠ bb := by omega
      clear ex hI hJr
      gi_wp2_with fail
      refine ⟨trivial, fun h => (by cases h), ?_⟩
      refine (callsIn_wide.2 (search_any _ _ _ _ _ ws x tn td _ SE.out (by rw [World.size_alloc]; omega) hrw hxm.1 hxm.2 ht ht' hu hu')).mono ?_
      rintro e W3 ⟨rfl, hk3⟩
      have hb3 := hk3.below
      have hz3 := hb3.size
      rw [World.size_alloc] at hz3
      have I3 : Hid (It bb bl bs bt W1.heap.size gw cw gp wl wh pl ph st tn td ws ps W3) := IB.out.below hb3
      have J3 : Hid (J (trainsTo st ws ps tn td j) W3) := abide HJ.out JB.out hb3
      have B3 : Hid (box5 W3 wr.heap.size x) := box5_map BX.out fun _ _ hu => kc_below hb3 hu
      have hle := aboveN_le ws x tn td
      have hlen := hrw.len
      have wl0 : Hid (winLo ws x tn td = aboveN ws x tn td - 1) := rfl
      have wh0 : Hid (winHi ws x tn td = min (aboveN ws x tn td + 1) ws.length) := rfl
      clear SE IB JB BX hb3 hk3 c0 c1 c2 c3 c4 q0 q1
      generalize aboveN ws x tn td = ab at *
      generalize wr.heap.size = bp at *
      have HWn : Hid (win st ws tn td x = winTo st ws x tn td (winHi ws x tn td - winLo ws x tn td)) := rfl
      have HWs := fun k => Lib.hid (winTo_succ st ws x tn td k)
      generalize winLo ws x tn td = L at *
      generalize winHi ws x tn td = H at *
      obtain ⟨hL, hH⟩ : (L ≤ ab ∧ ab ≤ L + 1 ∧ (ab = 0 → L = 0) ∧ (0 < ab → L + 1 = ab)) ∧ (H ≤ ab + 1 ∧ H ≤ ws.length ∧ (H = ab + 1 ∨ H = ws.length)) := by
        have := wl0.out
        have := wh0.out
        omega
      clear wl0 wh0
      gi_wp2_with fail
      gi_loopw [9] (fun s wr => ∃ k : Nat, k ≤ H - L ∧ s = .int .i64 ((L + k : Nat) : Int) ∧ W.heap.size ≤ wr.heap.size ∧ Hid (It bb bl bs bt W1.heap.size gw cw gp wl wh pl ph st tn td ws ps wr) ∧ Hid (J (trainsTo st ws ps tn td j ++ winTo st ws x tn td k) wr) ∧ Hid (box5 wr bp x)) (fun s _ => ws.length + 1 - (intOf s).toNat)
      case atStart =>
        refine ⟨0, Nat.zero_le _, ?_, by omega, I3, ?_, B3⟩
        · have : max ((ab : Int) - 1) 0 = ((L + 0 : Nat) : Int) := by omega
          rw [this]
        · show J _ _
          simpa [winTo] using J3.out
      case round =>
        clear I3 J3 B3
        obtain ⟨k, hk, rfl, hwr2, hI, hJk, hB⟩ := hrel
        by_cases hkl : k < H - L
        · have q0 := hI.out.cap.s
          have q1 := hI.out.box
          have hi : L + k < ws.length := by omega
          obtain ⟨b0, b1, b2, b3, b4⟩ := hB.out
          obtain ⟨⟨c0, c1, c2, c3, c4⟩, _⟩ := cells5 hI.out.row (show L + k < ws.toArray.size by simpa using hi)
          generalize hy0 : ws.toArray[L + k]! = y at *
          have hW2 := HWs k
          have hy0' := Lib.hid hy0
          clear hy0
          have hpl := (HP (k + 1) (by omega)).out
          have hsucc : trainsTo st ws ps tn td j ++ winTo st ws x tn td (k + 1) = (trainsTo st ws ps tn td j ++ winTo st ws x tn td k) ++ [⟨(st : Int), y, x⟩] := by
            rw [hW2.out, hy0'.out, List.append_assoc]
          rw [hsucc] at hpl
          have hlt : (trainsTo st ws ps tn td j ++ winTo st ws x tn td k).length < (trainsL st ws ps tn td).length := by
            have := hpl.length_le
            simp only [List.length_append, List.length_singleton] at this ⊢
            omega
          have hcl := HC.out _ (hpl.subset (List.mem_append_right _ (List.mem_singleton.2 rfl)))
          have SU := Lib.hid hsucc
          have PL := Lib.hid hpl
          obtain ⟨fn, tmps, assign, body, hy, hR⟩ := HY.out (trainsTo st ws ps tn td j ++ winTo st ws x tn td k) ⟨(st : Int), y, x⟩ wr.drew (abide HJ.out hJk.out ((Below.refl _ _).drew)) hlt
          (try dsimp only at hy)
          rw [hcl] at hy
          clear hcl
          dsimp only [Tr.val, Tr.cells] at hy
          have hg0 : (0 : Int) ≤ (L : Int) + (k : Int) := by omega
          have hg1 : (L : Int) + (k : Int) < (ws.length : Int) := by omega
          have hg2 : ((L : Int) + (k : Int)).toNat = L + k := by omega
          have RR := Lib.hid hR
          clear hR hsucc hpl hlt hW2
          gi_wp2_with fail
          refine still_tail_in (open_wide n) 8 (by kernel_rfl) (by kernel_rfl) (by kernel_rfl) ?_
          simp only [List.take_succ_cons, List.take_zero, List.drop_succ_cons, List.drop_zero]
          iterate 8 still_step
          refine wpStill_nil ?_
          gi_wp2_with fail
          refine ⟨fun h => (by cases h), ?_⟩
          refine RR.out.mono ?_
          have hz4 : wr.drew.heap.size = wr.heap.size := rfl
          have hId : Hid (It bb bl bs bt W1.heap.size gw cw gp wl wh pl ph st tn td ws ps wr.drew) := hI.out.below ((Below.refl _ _).drew)
          have hBd : Hid (box5 wr.drew bp x) := hB.out
          clear RR hI hB b0 b1 b2 b3 b4 c0 c1 c2 c3 c4 q0 q1 hy
          rintro e W4 (⟨rfl, hJ4, hk4⟩ | ⟨rfl, hJ4⟩)
          · have I4 : Hid (It bb bl bs bt W1.heap.size gw cw gp wl wh pl ph st tn td ws ps W4) := hId.out.kp hk4
            have B4 : Hid (box5 W4 bp x) := kp_box hk4 hnb hBd.out
            have J4 : Hid (J (trainsTo st ws ps tn td j ++ winTo st ws x tn td (k + 1)) W4) := by
              show J _ _
              rw [SU.out]; exact hJ4
            have hwz4 : W.heap.size ≤ W4.heap.size := by have := hk4.1; omega
            clear hk4 hJ4 hId hBd SU PL hz4
            gi_wp2_with fail
            exact ⟨⟨k + 1, by omega, by go_num, hwz4, I4, J4, B4⟩, by simp [intOf]; omega⟩
          · have E4 : Hid (∃ pre, pre <+: trainsL st ws ps tn td ∧ Jx pre W4) := ⟨_, PL.out, hJ4⟩
            clear hJ4 hId hBd SU PL
            gi_wp2_with fail
            refine bodyPost_ret (results_none rfl _ _ _) rfl ?_
            exact ⟨⟨_, rfl⟩, .inr E4.out⟩
        · have hke : k = H - L := by omega
          have q1 := hI.out.box
          have J5 : Hid (J (trainsTo st ws ps tn td (j + 1)) wr) := by
            show J _ _
            rw [HS.out, HWn.out, ← hke]
            exact hJk.out
          clear hJk hB HWs HP HS HWn
          gi_wp2_with fail
          exact ⟨⟨j + 1, by omega, by go_num, hwr2, hI, J5⟩, by simp [intOf]; omega⟩
    · have hje : j = ps.length := by omega
      subst hje
      have hF : Hid (J (trainsL st ws ps tn td) wr) := by
        have := hJr.out
        rwa [trainsTo_end] at this
      gi_wp2_with fail
      go_end0
      exact ⟨⟨_, rfl⟩, .inl ⟨_, rfl, hF.out⟩⟩
end Go.Proofs.Ytoenimkgagndnaa

/- Walks of package gear: trains (the function that gives out the iterator). -/
namespace Go.Proofs.Ytoenimkgagndnaa
set_option linter.unusedVariables false
set_option linter.unusedSimpArgs false
open Go.RowKit Go.Lib

theorem trainsF_any (n d wl wh pl ph k : Int) (st : Nat) (w : World) :
    Calls Try.prog 82 #[.agg #[.int .i64 n, .int .i64 d], .agg #[.int .i64 wl, .int .i64 wh, .int .i64 pl, .int .i64 ph, .int .i64 k], .int .i64 st] w fun e w' =>
      e = .returned (.func (.func 104) #[] #[.pointer (some ⟨w.heap.size + 1, 0, none⟩), .pointer (some ⟨w.heap.size + 2, 0, none⟩), .pointer (some ⟨w.heap.size, 0, none⟩)]) ∧ Gro w w' ∧ w'.heap.size = w.heap.size + 3 ∧
      Cap w' (w.heap.size + 1) (w.heap.size + 2) w.heap.size wl wh pl ph st n d := by
  go_enter Try.func82, Try.ntmps82
  go_wp2
  go_ret
  refine ⟨rfl, by (repeat (first | with_reducible rfl | with_reducible exact Below.refl _ _ | with_reducible exact gro_refl _ | with_reducible refine kc_drew ?_ | with_reducible refine kc_drewN _ ?_ | with_reducible refine kf_drew ?_ | with_reducible refine kf_drewN _ ?_ | ((with_reducible refine kc_new ?_ ?_); (focus (first | with_reducible rfl | (simp only [World.size_alloc, World.size_setCell, World.size_drew, size_drewN]; done))); (focus (first | rfl | (simp; done)))) | ((with_reducible refine kc_set0 ?_ ?_); (focus (first | rfl | (simp; done)))) | with_reducible refine ct_drew ?_ | with_reducible refine ct_drewN _ ?_ | ((with_reducible refine ct_new ?_ ?_); (focus (first | with_reducible rfl | (simp only [World.size_alloc, World.size_setCell, World.size_drew, size_drewN]; done))); (focus (first | rfl | (simp; done)))) | with_reducible refine ct_set _ _ ?_ | with_reducible refine ct_alloc _ ?_ | ((with_reducible refine kc_set ?_ ?_); (focus (first | (intro hx; injection hx; omega) | (simp; done)))) | with_reducible refine kc_alloc _ ?_ | ((with_reducible refine kf_new ?_ _); (focus (first | with_reducible rfl | (simp only [World.size_alloc, World.size_setCell, World.size_drew, size_drewN]; done)))) | with_reducible refine kf_set _ _ ?_ | ((with_reducible refine kf_alloc _ ?_ ?_); (focus (first | (simp only [World.size_alloc, World.size_setCell, World.size_drew, size_drewN]; omega) | (dsimp only; omega)))) | with_reducible refine bl_alloc ?_ _ | with_reducible refine bl_drew ?_ | with_reducible refine bl_drewN ?_ _ | ((with_reducible refine bl_set ?_ ?_ _); (focus (dsimp only; omega))) | with_reducible refine gro_alloc ?_ _ | with_reducible refine gro_drew ?_ | with_reducible refine gro_drewN ?_ _ | ((with_reducible refine gro_set ?_ ?_ _); (focus (first | omega | (dsimp only; omega)))))), by simp, ⟨?_, ?_, ?_, ?_, ?_, ?_, ?_⟩⟩
  all_goals (repeat (first | with_reducible rfl | with_reducible exact Below.refl _ _ | with_reducible exact gro_refl _ | with_reducible refine kc_drew ?_ | with_reducible refine kc_drewN _ ?_ | with_reducible refine kf_drew ?_ | with_reducible refine kf_drewN _ ?_ | ((with_reducible refine kc_new ?_ ?_); (focus (first | with_reducible rfl | (simp only [World.size_alloc, World.size_setCell, World.size_drew, size_drewN]; done))); (focus (first | rfl | (simp; done)))) | ((with_reducible refine kc_set0 ?_ ?_); (focus (first | rfl | (simp; done)))) | with_reducible refine ct_drew ?_ | with_reducible refine ct_drewN _ ?_ | ((with_reducible refine ct_new ?_ ?_); (focus (first | with_reducible rfl | (simp only [World.size_alloc, World.size_setCell, World.size_drew, size_drewN]; done))); (focus (first | rfl | (simp; done)))) | with_reducible refine ct_set _ _ ?_ | with_reducible refine ct_alloc _ ?_ | ((with_reducible refine kc_set ?_ ?_); (focus (first | (intro hx; injection hx; omega) | (simp; done)))) | with_reducible refine kc_alloc _ ?_ | ((with_reducible refine kf_new ?_ _); (focus (first | with_reducible rfl | (simp only [World.size_alloc, World.size_setCell, World.size_drew, size_drewN]; done)))) | with_reducible refine kf_set _ _ ?_ | ((with_reducible refine kf_alloc _ ?_ ?_); (focus (first | (simp only [World.size_alloc, World.size_setCell, World.size_drew, size_drewN]; omega) | (dsimp only; omega)))) | with_reducible refine bl_alloc ?_ _ | with_reducible refine bl_drew ?_ | with_reducible refine bl_drewN ?_ _ | ((with_reducible refine bl_set ?_ ?_ _); (focus (dsimp only; omega))) | with_reducible refine gro_alloc ?_ _ | with_reducible refine gro_drew ?_ | with_reducible refine gro_drewN ?_ _ | ((with_reducible refine gro_set ?_ ?_ _); (focus (first | omega | (dsimp only; omega))))))
end Go.Proofs.Ytoenimkgagndnaa

/- The plain side of Exact at the ratio 60, wheels of 60 to 80, pinions of 6 to 10, at most two stages. -/
namespace Go.Proofs.Ytoenimkgagndnaa
set_option linter.unusedVariables false
set_option linter.unusedSimpArgs false
open Go.RowKit Go.Shelf Go.Lib Go.Sort

theorem gen1 {low high : Int} {r : Bool} {s : Side} (h : s ∈ gen low high r 1) : ∃ a, low ≤ a ∧ a ≤ high ∧ s = ⟨a, 0, 0, a, a⟩ := by
  simp only [gen, List.mem_flatMap, List.mem_singleton] at h
  obtain ⟨y, rfl, h⟩ := h
  simp only [ext, extTo, List.mem_map, List.mem_range] at h
  obtain ⟨i, hi, rfl⟩ := h
  have e1 : fromOf low r 0 ⟨0, 0, 0, 1, 0⟩ = low := by simp [fromOf]
  have e2 : toOf high r 0 ⟨0, 0, 0, 1, 0⟩ = high := by simp [toOf]
  rw [e1, e2] at hi
  rw [e1]
  exact ⟨low + i, by omega, by omega, by simp [Side.with]⟩

theorem gen2 {low high : Int} {r : Bool} {s : Side} (h : s ∈ gen low high r 2) : ∃ a b, low ≤ a ∧ a ≤ high ∧ (r = true → a ≤ b ∧ b ≤ high) ∧ (r = false → low ≤ b ∧ b ≤ a) ∧ s = ⟨a, b, 0, a * b, a + b⟩ := by
  have h' : s ∈ (gen low high r 1).flatMap (ext low high r 1) := h
  obtain ⟨y, hy, h⟩ := List.mem_flatMap.1 h'
  obtain ⟨a, h1, h2, rfl⟩ := gen1 hy
  simp only [ext, extTo, List.mem_map, List.mem_range] at h
  obtain ⟨i, hi, rfl⟩ := h
  cases r
  · have e1 : fromOf low false 1 ⟨a, 0, 0, a, a⟩ = low := by simp [fromOf]
    have e2 : toOf high false 1 ⟨a, 0, 0, a, a⟩ = a := by simp [toOf, Side.tooth]
    rw [e1, e2] at hi
    rw [e1]
    exact ⟨a, low + i, h1, h2, fun h => (by cases h), fun _ => by omega, by simp [Side.with]⟩
  · have e1 : fromOf low true 1 ⟨a, 0, 0, a, a⟩ = a := by simp [fromOf, Side.tooth]
    have e2 : toOf high true 1 ⟨a, 0, 0, a, a⟩ = high := by simp [toOf]
    rw [e1, e2] at hi
    rw [e1]
    exact ⟨a, a + i, h1, h2, fun _ => by omega, fun h => (by cases h), by simp [Side.with]⟩

theorem isR_mul {tn td : Int} {t : Tr} (h : isR tn td t = true) : t.w.p * td = tn * t.p.p := by
  unfold isR quoN quoD at h
  simp only [Bool.and_eq_true, beq_iff_eq] at h
  obtain ⟨h1, h2⟩ := h
  have d1 : ((Int.gcd t.w.p t.p.p : Nat) : Int) ∣ t.w.p := Int.gcd_dvd_left ..
  have d2 : ((Int.gcd t.w.p t.p.p : Nat) : Int) ∣ t.p.p := Int.gcd_dvd_right ..
  have e1 := Int.ediv_mul_cancel d1
  have e2 := Int.ediv_mul_cancel d2
  rw [h1] at e1
  rw [h2] at e2
  generalize ((Int.gcd t.w.p t.p.p : Nat) : Int) = g at *
  rw [← e1, ← e2]
  rw [Int.mul_assoc, Int.mul_comm g td]

def w60 : Side := ⟨60, 60, 0, 3600, 120⟩
def p60 : Side := ⟨6, 10, 0, 60, 16⟩
theorem w60_mem : w60 ∈ sidesL 60 80 2 false := by
  have h : w60 ∈ gen 60 80 false 2 := List.mem_flatMap.2 ⟨⟨60, 0, 0, 60, 60⟩, List.mem_flatMap.2 ⟨⟨0, 0, 0, 1, 0⟩, by simp [gen], List.mem_map.2 ⟨0, by decide, by decide⟩⟩, List.mem_map.2 ⟨0, by decide, by decide⟩⟩
  obtain ⟨x, hx, hp, _⟩ := sidesL_rep h
  obtain ⟨a, b, h1, h2, _, h3, rfl⟩ := gen2 (sidesL_mem hx)
  obtain ⟨h4, h5⟩ := h3 rfl
  have hp' : a * b = 3600 := hp
  have m1 := Int.mul_le_mul (show 60 ≤ a from h1) (show 60 ≤ b from h4) (by omega) (by omega)
  have m2 := Int.mul_le_mul (show a ≤ a from Int.le_refl _) (show 60 ≤ b from h4) (by omega) (by omega)
  have ea : a = 60 := by omega
  subst ea
  have eb : b = 60 := by omega
  subst eb
  exact hx
theorem p60_mem : p60 ∈ sidesL 6 10 2 true := by
  have h : p60 ∈ gen 6 10 true 2 := List.mem_flatMap.2 ⟨⟨6, 0, 0, 6, 6⟩, List.mem_flatMap.2 ⟨⟨0, 0, 0, 1, 0⟩, by simp [gen], List.mem_map.2 ⟨0, by decide, by decide⟩⟩, List.mem_map.2 ⟨4, by decide, by decide⟩⟩
  obtain ⟨x, hx, hp, _⟩ := sidesL_rep h
  obtain ⟨a, b, h1, h2, h3, _, rfl⟩ := gen2 (sidesL_mem hx)
  obtain ⟨h4, h5⟩ := h3 rfl
  have hp' : a * b = 60 := hp
  rcases (show a = 6 ∨ a = 7 ∨ a = 8 ∨ a = 9 ∨ a = 10 by omega) with rfl | rfl | rfl | rfl | rfl
  · have eb : b = 10 := by omega
    subst eb
    exact hx
  all_goals omega

theorem pick_one : bestE 60 1 (trainsL 1 (sidesL 60 80 1 false) (sidesL 6 10 1 true) 60 1) = zeroTr := by
  have hn : ∀ t ∈ trainsL 1 (sidesL 60 80 1 false) (sidesL 6 10 1 true) 60 1, 1 ≤ t.n := fun t ht => by
    have := (trains_sides ht).1
    omega
  rcases bestE_spec 60 1 _ hn with ⟨_, h, _⟩ | ⟨_, h1, h2, _⟩
  · exact h
  · obtain ⟨_, hw, hp⟩ := trains_sides h1
    have hm := isR_mul h2
    obtain ⟨a, a1, a2, ew⟩ := gen1 (sidesL_mem hw)
    obtain ⟨b, b1, b2, ep⟩ := gen1 (sidesL_mem hp)
    rw [ew, ep] at hm
    simp only at hm
    omega

theorem pick_two : bestE 60 1 (trainsL 2 (sidesL 60 80 2 false) (sidesL 6 10 2 true) 60 1) = ⟨2, w60, p60⟩ := by
  have hn : ∀ t ∈ trainsL 2 (sidesL 60 80 2 false) (sidesL 6 10 2 true) 60 1, 1 ≤ t.n := fun t ht => by
    have := (trains_sides ht).1
    omega
  have ht0 := trains_exact (st := 2) (sidesL_strict 60 80 2 false) (tn := 60) (td := 1) (by decide) w60_mem p60_mem (by decide)
  have hr0 : isR 60 1 ⟨((2 : Nat) : Int), w60, p60⟩ = true := by decide
  rcases bestE_spec 60 1 _ hn with ⟨_, _, h⟩ | ⟨_, h1, h2, h3⟩
  · have := h _ ht0
    rw [hr0] at this
    cases this
  · have hb := h3 _ ht0 hr0
    generalize bestE 60 1 (trainsL 2 (sidesL 60 80 2 false) (sidesL 6 10 2 true) 60 1) = u at *
    obtain ⟨hn2, hw, hp⟩ := trains_sides h1
    have hm := isR_mul h2
    obtain ⟨a, b, a1, a2, _, a3, ew⟩ := gen2 (sidesL_mem hw)
    obtain ⟨c, d, c1, c2, c3, _, ep⟩ := gen2 (sidesL_mem hp)
    obtain ⟨a3, a4⟩ := a3 rfl
    obtain ⟨c3, c4⟩ := c3 rfl
    have hlt : ¬ (Tr.lt ⟨((2 : Nat) : Int), w60, p60⟩ u) := by
      rw [← betF_iff, hb]; simp
    obtain ⟨n, w, p⟩ := u
    simp only at hn2 ew ep
    subst hn2; subst ew; subst ep
    simp only at hm
    have hs : a + b + (c + d) ≤ 136 := by
      dsimp only [Tr.lt, w60, p60] at hlt
      omega
    have m1 := Int.mul_le_mul (show 60 ≤ a from a1) (show 60 ≤ b from a3) (by omega) (by omega)
    generalize hab : a * b = ab at *
    rcases (show c = 6 ∨ c = 7 ∨ c = 8 ∨ c = 9 ∨ c = 10 by omega) with rfl | rfl | rfl | rfl | rfl
    · have ea : a = 60 := by omega
      have eb : b = 60 := by omega
      subst ea; subst eb
      have ed : d = 10 := by omega
      subst ed
      subst hab
      rfl
    all_goals
      exfalso
      have ea : a = 60 := by omega
      have eb : b = 60 := by omega
      subst ea; subst eb
      omega
end Go.Proofs.Ytoenimkgagndnaa

/- Exact: the body of its loop over the trains. -/
namespace Go.Proofs.Ytoenimkgagndnaa
set_option linter.unusedVariables false
set_option linter.unusedSimpArgs false
open Go.RowKit Go.Shelf Go.Lib Go.Sort
attribute [local go_sem] Oper.semAt_some undef

def firstRange : Code → Option Code
  | .rangeFunc _ _ _ b => some b
  | .loop c => firstRange c
  | .seq a b => match firstRange a with
    | some c => some c
    | none => firstRange b
  | .block _ c => firstRange c
  | .scope c => firstRange c
  | .cond _ a b => match firstRange a with
    | some c => some c
    | none => firstRange b
  | _ => none
noncomputable def bodyE : Code := ((Try.f49.body.bind firstRange).getD .skip)

/-- A train in a box. -/
def boxT (W : World) (b : Nat) (t : Tr) : Prop := ∀ i, i < 11 → W.cell? ⟨b, i, none⟩ = some (t.cells[i]!)

set_option maxHeartbeats 2000000 in
set_option maxRecDepth 100000 in
theorem body_not (l n : Nat) (v0 v1 v3 v4 v5 v6 v7 v10 v11 v12 v13 v14 v15 v16 v17 v18 v19 v20 v21 v22 v23 v24 v25 v26 v27 v43 v44 v45 v46 v47 v48 : Value)
    (b0 bb bx : Nat) (tn td : Int) (t : Tr) (W : World) (Q : Exit → Act → World → Prop)
    (h0 : W.cell? ⟨b0, 0, none⟩ = some (.int .i64 tn)) (h1 : W.cell? ⟨b0, 1, none⟩ = some (.int .i64 td)) (ht : t.ok) (hr : isR tn td t = false)
    (c0 : W.cell? ⟨bx, 0, none⟩ = some (.int .i64 t.n)) (c1 : W.cell? ⟨bx, 1, none⟩ = some (.int .i64 t.w.a)) (c2 : W.cell? ⟨bx, 2, none⟩ = some (.int .i64 t.w.b)) (c3 : W.cell? ⟨bx, 3, none⟩ = some (.int .i64 t.w.c)) (c4 : W.cell? ⟨bx, 4, none⟩ = some (.int .i64 t.w.p)) (c5 : W.cell? ⟨bx, 5, none⟩ = some (.int .i64 t.w.s))
    (c6 : W.cell? ⟨bx, 6, none⟩ = some (.int .i64 t.p.a)) (c7 : W.cell? ⟨bx, 7, none⟩ = some (.int .i64 t.p.b)) (c8 : W.cell? ⟨bx, 8, none⟩ = some (.int .i64 t.p.c)) (c9 : W.cell? ⟨bx, 9, none⟩ = some (.int .i64 t.p.p)) (c10 : W.cell? ⟨bx, 10, none⟩ = some (.int .i64 t.p.s))
    (hQ : ∀ a' W', Gro W W' → Q .normal a' W') :
    Code.wpIn (Fence.wide.inRound l) n Try.prog bodyE Q ⟨#[v0, v1, .pointer (some ⟨b0, 0, none⟩), v3, v4, v5, v6, v7, .pointer (some ⟨bb, 0, none⟩), .pointer (some ⟨bx, 0, none⟩), v10, v11, v12, v13, v14, v15, v16, v17, v18, v19, v20, v21, v22, v23, v24, v25, v26, v27, undef, undef, undef, undef, undef, undef, undef, undef, undef, undef, undef, undef, undef, undef, undef, v43, v44, v45, v46, v47, v48], []⟩ W := by
  obtain ⟨n', ⟨a, b, c, p, s⟩, ⟨a', b', c', p', s'⟩⟩ := t
  have hR := fun W => ratio_any ⟨n', ⟨a, b, c, p, s⟩, ⟨a', b', c', p', s'⟩⟩ W ht
  unfold isR at hr
  simp only [Tr.val, Tr.cells] at *
  generalize quoN p p' = x at *
  generalize quoD p p' = y at *
  have H := fun W => Lib.hid (hR W)
  clear hR ht
  by_cases hx : x = tn
  · have e1 : (x == tn) = true := by simpa using hx
    have hy : y ≠ td := by
      rintro rfl
      rw [e1] at hr
      simp at hr
    have e2 : (y == td) = false := by simpa using hy
    clear hr
    conv => arg 4; whnf
    gi_wp2_with fail
    gi_region_with ((first | (refine ⟨trivial, fun h => (by cases h), ?_⟩; refine (CallsIn.inRound l (callsIn_wide.2 (H _).out)).mono ?_; rintro e w1 ⟨rfl, hk1⟩; have hb1 := hk1.below; have k0 := kc_below hb1 h0; have k1 := kc_below hb1 h1; have f0 := kc_below hb1 c0; have f1 := kc_below hb1 c1; have f2 := kc_below hb1 c2; have f3 := kc_below hb1 c3; have f4 := kc_below hb1 c4; have f5 := kc_below hb1 c5; have f6 := kc_below hb1 c6; have f7 := kc_below hb1 c7; have f8 := kc_below hb1 c8; have f9 := kc_below hb1 c9; have f10 := kc_below hb1 c10) | (refine ⟨trivial, ?_⟩)))
    all_goals gi_wp2_with fail
    all_goals (repeat (first | with_reducible rfl | with_reducible exact Below.refl _ _ | with_reducible exact gro_refl _ | with_reducible refine kc_drew ?_ | with_reducible refine kc_drewN _ ?_ | with_reducible refine kf_drew ?_ | with_reducible refine kf_drewN _ ?_ | with_reducible refine kc_below hb1 ?_ | ((with_reducible refine kc_new ?_ ?_); (focus (first | with_reducible rfl | (simp only [World.size_alloc, World.size_setCell, World.size_drew, size_drewN]; done))); (focus (first | rfl | (simp; done)))) | ((with_reducible refine kc_set0 ?_ ?_); (focus (first | rfl | (simp; done)))) | with_reducible refine ct_drew ?_ | with_reducible refine ct_drewN _ ?_ | with_reducible refine ct_below hb1 ?_ | ((with_reducible refine ct_new ?_ ?_); (focus (first | with_reducible rfl | (simp only [World.size_alloc, World.size_setCell, World.size_drew, size_drewN]; done))); (focus (first | rfl | (simp; done)))) | with_reducible refine ct_set _ _ ?_ | with_reducible refine ct_alloc _ ?_ | ((with_reducible refine kc_set ?_ ?_); (focus (first | (intro hx; injection hx; omega) | (simp; done)))) | with_reducible refine kc_alloc _ ?_ | ((with_reducible refine kf_new ?_ _); (focus (first | with_reducible rfl | (simp only [World.size_alloc, World.size_setCell, World.size_drew, size_drewN]; done)))) | with_reducible refine kf_set _ _ ?_ | ((with_reducible refine kf_below hb1 ?_ ?_); (focus (simp only [World.size_alloc, World.size_setCell, World.size_drew, size_drewN]; omega))) | ((with_reducible refine kf_alloc _ ?_ ?_); (focus (first | (simp only [World.size_alloc, World.size_setCell, World.size_drew, size_drewN]; omega) | (dsimp only; omega)))) | with_reducible refine bl_alloc ?_ _ | with_reducible refine bl_drew ?_ | with_reducible refine bl_drewN ?_ _ | ((with_reducible refine bl_set ?_ ?_ _); (focus (dsimp only; omega))) | with_reducible refine bl_call ?_ hb1 | with_reducible refine gro_alloc ?_ _ | with_reducible refine gro_drew ?_ | with_reducible refine gro_drewN ?_ _ | ((with_reducible refine gro_set ?_ ?_ _); (focus (first | omega | (dsimp only; omega)))) | with_reducible refine gro_call ?_ hk1))
  · have e1 : (x == tn) = false := by simpa using hx
    clear hr
    conv => arg 4; whnf
    gi_wp2_with fail
    gi_region_with ((first | (refine ⟨trivial, fun h => (by cases h), ?_⟩; refine (CallsIn.inRound l (callsIn_wide.2 (H _).out)).mono ?_; rintro e w1 ⟨rfl, hk1⟩; have hb1 := hk1.below; have k0 := kc_below hb1 h0; have k1 := kc_below hb1 h1; have f0 := kc_below hb1 c0; have f1 := kc_below hb1 c1; have f2 := kc_below hb1 c2; have f3 := kc_below hb1 c3; have f4 := kc_below hb1 c4; have f5 := kc_below hb1 c5; have f6 := kc_below hb1 c6; have f7 := kc_below hb1 c7; have f8 := kc_below hb1 c8; have f9 := kc_below hb1 c9; have f10 := kc_below hb1 c10) | (refine ⟨trivial, ?_⟩)))
    all_goals gi_wp2_with fail
    all_goals (repeat (first | with_reducible rfl | with_reducible exact Below.refl _ _ | with_reducible exact gro_refl _ | with_reducible refine kc_drew ?_ | with_reducible refine kc_drewN _ ?_ | with_reducible refine kf_drew ?_ | with_reducible refine kf_drewN _ ?_ | with_reducible refine kc_below hb1 ?_ | ((with_reducible refine kc_new ?_ ?_); (focus (first | with_reducible rfl | (simp only [World.size_alloc, World.size_setCell, World.size_drew, size_drewN]; done))); (focus (first | rfl | (simp; done)))) | ((with_reducible refine kc_set0 ?_ ?_); (focus (first | rfl | (simp; done)))) | with_reducible refine ct_drew ?_ | with_reducible refine ct_drewN _ ?_ | with_reducible refine ct_below hb1 ?_ | ((with_reducible refine ct_new ?_ ?_); (focus (first | with_reducible rfl | (simp only [World.size_alloc, World.size_setCell, World.size_drew, size_drewN]; done))); (focus (first | rfl | (simp; done)))) | with_reducible refine ct_set _ _ ?_ | with_reducible refine ct_alloc _ ?_ | ((with_reducible refine kc_set ?_ ?_); (focus (first | (intro hx; injection hx; omega) | (simp; done)))) | with_reducible refine kc_alloc _ ?_ | ((with_reducible refine kf_new ?_ _); (focus (first | with_reducible rfl | (simp only [World.size_alloc, World.size_setCell, World.size_drew, size_drewN]; done)))) | with_reducible refine kf_set _ _ ?_ | ((with_reducible refine kf_below hb1 ?_ ?_); (focus (simp only [World.size_alloc, World.size_setCell, World.size_drew, size_drewN]; omega))) | ((with_reducible refine kf_alloc _ ?_ ?_); (focus (first | (simp only [World.size_alloc, World.size_setCell, World.size_drew, size_drewN]; omega) | (dsimp only; omega)))) | with_reducible refine bl_alloc ?_ _ | with_reducible refine bl_drew ?_ | with_reducible refine bl_drewN ?_ _ | ((with_reducible refine bl_set ?_ ?_ _); (focus (dsimp only; omega))) | with_reducible refine bl_call ?_ hb1 | with_reducible refine gro_alloc ?_ _ | with_reducible refine gro_drew ?_ | with_reducible refine gro_drewN ?_ _ | ((with_reducible refine gro_set ?_ ?_ _); (focus (first | omega | (dsimp only; omega)))) | with_reducible refine gro_call ?_ hk1))
end Go.Proofs.Ytoenimkgagndnaa

/- Exact: the body of its loop over the trains. -/
namespace Go.Proofs.Ytoenimkgagndnaa
set_option linter.unusedVariables false
set_option linter.unusedSimpArgs false
open Go.RowKit Go.Shelf Go.Lib Go.Sort
attribute [local go_sem] Oper.semAt_some undef

/-- A train stored into a box. -/
def put11 (W : World) (bb : Nat) (t : Tr) : World := ((((((((((W.setCell ⟨bb, 0, none⟩ (.int .i64 t.n)).setCell ⟨bb, 1, none⟩ (.int .i64 t.w.a)).setCell ⟨bb, 2, none⟩ (.int .i64 t.w.b)).setCell ⟨bb, 3, none⟩ (.int .i64 t.w.c)).setCell ⟨bb, 4, none⟩ (.int .i64 t.w.p)).setCell ⟨bb, 5, none⟩ (.int .i64 t.w.s)).setCell ⟨bb, 6, none⟩ (.int .i64 t.p.a)).setCell ⟨bb, 7, none⟩ (.int .i64 t.p.b)).setCell ⟨bb, 8, none⟩ (.int .i64 t.p.c)).setCell ⟨bb, 9, none⟩ (.int .i64 t.p.p)).setCell ⟨bb, 10, none⟩ (.int .i64 t.p.s)

set_option maxHeartbeats 2000000 in
set_option maxRecDepth 100000 in
theorem body_first (l n : Nat) (v0 v1 v3 v4 v5 v6 v7 v10 v11 v12 v13 v14 v15 v16 v17 v18 v19 v20 v21 v22 v23 v24 v25 v26 v27 v43 v44 v45 v46 v47 v48 : Value)
    (b0 bb bx : Nat) (tn td : Int) (t : Tr) (W : World) (Q : Exit → Act → World → Prop)
    (h0 : W.cell? ⟨b0, 0, none⟩ = some (.int .i64 tn)) (h1 : W.cell? ⟨b0, 1, none⟩ = some (.int .i64 td)) (ht : t.ok) (hr : isR tn td t = true) (hbb : bb < W.heap.size) (g0 : W.cell? ⟨bb, 0, none⟩ = some (.int .i64 0)) (z0 : W.frozen? ⟨bb, 0, none⟩ = false) (g1 : W.cell? ⟨bb, 1, none⟩ = some (.int .i64 0)) (z1 : W.frozen? ⟨bb, 1, none⟩ = false) (g2 : W.cell? ⟨bb, 2, none⟩ = some (.int .i64 0)) (z2 : W.frozen? ⟨bb, 2, none⟩ = false) (g3 : W.cell? ⟨bb, 3, none⟩ = some (.int .i64 0)) (z3 : W.frozen? ⟨bb, 3, none⟩ = false) (g4 : W.cell? ⟨bb, 4, none⟩ = some (.int .i64 0)) (z4 : W.frozen? ⟨bb, 4, none⟩ = false) (g5 : W.cell? ⟨bb, 5, none⟩ = some (.int .i64 0)) (z5 : W.frozen? ⟨bb, 5, none⟩ = false) (g6 : W.cell? ⟨bb, 6, none⟩ = some (.int .i64 0)) (z6 : W.frozen? ⟨bb, 6, none⟩ = false) (g7 : W.cell? ⟨bb, 7, none⟩ = some (.int .i64 0)) (z7 : W.frozen? ⟨bb, 7, none⟩ = false) (g8 : W.cell? ⟨bb, 8, none⟩ = some (.int .i64 0)) (z8 : W.frozen? ⟨bb, 8, none⟩ = false) (g9 : W.cell? ⟨bb, 9, none⟩ = some (.int .i64 0)) (z9 : W.frozen? ⟨bb, 9, none⟩ = false) (g10 : W.cell? ⟨bb, 10, none⟩ = some (.int .i64 0)) (z10 : W.frozen? ⟨bb, 10, none⟩ = false)
    (c0 : W.cell? ⟨bx, 0, none⟩ = some (.int .i64 t.n)) (c1 : W.cell? ⟨bx, 1, none⟩ = some (.int .i64 t.w.a)) (c2 : W.cell? ⟨bx, 2, none⟩ = some (.int .i64 t.w.b)) (c3 : W.cell? ⟨bx, 3, none⟩ = some (.int .i64 t.w.c)) (c4 : W.cell? ⟨bx, 4, none⟩ = some (.int .i64 t.w.p)) (c5 : W.cell? ⟨bx, 5, none⟩ = some (.int .i64 t.w.s))
    (c6 : W.cell? ⟨bx, 6, none⟩ = some (.int .i64 t.p.a)) (c7 : W.cell? ⟨bx, 7, none⟩ = some (.int .i64 t.p.b)) (c8 : W.cell? ⟨bx, 8, none⟩ = some (.int .i64 t.p.c)) (c9 : W.cell? ⟨bx, 9, none⟩ = some (.int .i64 t.p.p)) (c10 : W.cell? ⟨bx, 10, none⟩ = some (.int .i64 t.p.s))
    (hQ : ∀ a' W', (∃ w1, Gro W w1 ∧ W' = put11 w1 bb t) → Q .normal a' W') :
    Code.wpIn (Fence.wide.inRound l) n Try.prog bodyE Q ⟨#[v0, v1, .pointer (some ⟨b0, 0, none⟩), v3, v4, v5, v6, v7, .pointer (some ⟨bb, 0, none⟩), .pointer (some ⟨bx, 0, none⟩), v10, v11, v12, v13, v14, v15, v16, v17, v18, v19, v20, v21, v22, v23, v24, v25, v26, v27, undef, undef, undef, undef, undef, undef, undef, undef, undef, undef, undef, undef, undef, undef, undef, v43, v44, v45, v46, v47, v48], []⟩ W := by
  obtain ⟨n', ⟨a, b, c, p, s⟩, ⟨a', b', c', p', s'⟩⟩ := t
  have hR := fun W => ratio_any ⟨n', ⟨a, b, c, p, s⟩, ⟨a', b', c', p', s'⟩⟩ W ht
  unfold isR at hr
  simp only [Tr.val, Tr.cells] at *
  generalize quoN p p' = x at *
  generalize quoD p p' = y at *
  have H := fun W => Lib.hid (hR W)
  clear hR ht
  simp only [Bool.and_eq_true, beq_iff_eq] at hr
  obtain ⟨rfl, rfl⟩ := hr
  have e1 : (x == x) = true := by simp
  have e2 : (y == y) = true := by simp
  conv => arg 4; whnf
  gi_wp2_with fail
  gi_region_with ((first | (refine ⟨trivial, fun h => (by cases h), ?_⟩; refine (CallsIn.inRound l (callsIn_wide.2 (H _).out)).mono ?_; rintro e w1 ⟨rfl, hk1⟩; have hb1 := hk1.below; have k0 := kc_below hb1 h0; have k1 := kc_below hb1 h1; have f0 := kc_below hb1 c0; have f1 := kc_below hb1 c1; have f2 := kc_below hb1 c2; have f3 := kc_below hb1 c3; have f4 := kc_below hb1 c4; have f5 := kc_below hb1 c5; have f6 := kc_below hb1 c6; have f7 := kc_below hb1 c7; have f8 := kc_below hb1 c8; have f9 := kc_below hb1 c9; have f10 := kc_below hb1 c10; have hbw := (show bb < w1.heap.size from Nat.lt_of_lt_of_le hbb hb1.size); have gg0 := kc_below hb1 g0; have zz0 := kf_below hb1 hbb z0; have gg1 := kc_below hb1 g1; have zz1 := kf_below hb1 hbb z1; have gg2 := kc_below hb1 g2; have zz2 := kf_below hb1 hbb z2; have gg3 := kc_below hb1 g3; have zz3 := kf_below hb1 hbb z3; have gg4 := kc_below hb1 g4; have zz4 := kf_below hb1 hbb z4; have gg5 := kc_below hb1 g5; have zz5 := kf_below hb1 hbb z5; have gg6 := kc_below hb1 g6; have zz6 := kf_below hb1 hbb z6; have gg7 := kc_below hb1 g7; have zz7 := kf_below hb1 hbb z7; have gg8 := kc_below hb1 g8; have zz8 := kf_below hb1 hbb z8; have gg9 := kc_below hb1 g9; have zz9 := kf_below hb1 hbb z9; have gg10 := kc_below hb1 g10; have zz10 := kf_below hb1 hbb z10) | (refine ⟨trivial, ?_⟩)))
  all_goals gi_wp2_with fail
  all_goals exact ⟨w1, by (repeat (first | with_reducible rfl | with_reducible exact Below.refl _ _ | with_reducible exact gro_refl _ | with_reducible refine kc_drew ?_ | with_reducible refine kc_drewN _ ?_ | with_reducible refine kf_drew ?_ | with_reducible refine kf_drewN _ ?_ | with_reducible refine kc_below hb1 ?_ | ((with_reducible refine kc_new ?_ ?_); (focus (first | with_reducible rfl | (simp only [World.size_alloc, World.size_setCell, World.size_drew, size_drewN]; done))); (focus (first | rfl | (simp; done)))) | ((with_reducible refine kc_set0 ?_ ?_); (focus (first | rfl | (simp; done)))) | with_reducible refine ct_drew ?_ | with_reducible refine ct_drewN _ ?_ | with_reducible refine ct_below hb1 ?_ | ((with_reducible refine ct_new ?_ ?_); (focus (first | with_reducible rfl | (simp only [World.size_alloc, World.size_setCell, World.size_drew, size_drewN]; done))); (focus (first | rfl | (simp; done)))) | with_reducible refine ct_set _ _ ?_ | with_reducible refine ct_alloc _ ?_ | ((with_reducible refine kc_set ?_ ?_); (focus (first | (intro hx; injection hx; omega) | (simp; done)))) | with_reducible refine kc_alloc _ ?_ | ((with_reducible refine kf_new ?_ _); (focus (first | with_reducible rfl | (simp only [World.size_alloc, World.size_setCell, World.size_drew, size_drewN]; done)))) | with_reducible refine kf_set _ _ ?_ | ((with_reducible refine kf_below hb1 ?_ ?_); (focus (simp only [World.size_alloc, World.size_setCell, World.size_drew, size_drewN]; omega))) | ((with_reducible refine kf_alloc _ ?_ ?_); (focus (first | (simp only [World.size_alloc, World.size_setCell, World.size_drew, size_drewN]; omega) | (dsimp only; omega)))) | with_reducible refine bl_alloc ?_ _ | with_reducible refine bl_drew ?_ | with_reducible refine bl_drewN ?_ _ | ((with_reducible refine bl_set ?_ ?_ _); (focus (dsimp only; omega))) | with_reducible refine bl_call ?_ hb1 | with_reducible refine gro_alloc ?_ _ | with_reducible refine gro_drew ?_ | with_reducible refine gro_drewN ?_ _ | ((with_reducible refine gro_set ?_ ?_ _); (focus (first | omega | (dsimp only; omega)))) | with_reducible refine gro_call ?_ hk1)), rfl⟩
end Go.Proofs.Ytoenimkgagndnaa

/- Exact: the body of its loop over the trains. -/
namespace Go.Proofs.Ytoenimkgagndnaa
set_option linter.unusedVariables false
set_option linter.unusedSimpArgs false
open Go.RowKit Go.Shelf Go.Lib Go.Sort
attribute [local go_sem] Oper.semAt_some undef

set_option maxHeartbeats 2000000 in
set_option maxRecDepth 100000 in
theorem body_yes (l n : Nat) (v0 v1 v3 v4 v5 v6 v7 v10 v11 v12 v13 v14 v15 v16 v17 v18 v19 v20 v21 v22 v23 v24 v25 v26 v27 v43 v44 v45 v46 v47 v48 : Value)
    (b0 bb bx : Nat) (tn td : Int) (t u : Tr) (W : World) (Q : Exit → Act → World → Prop)
    (h0 : W.cell? ⟨b0, 0, none⟩ = some (.int .i64 tn)) (h1 : W.cell? ⟨b0, 1, none⟩ = some (.int .i64 td)) (ht : t.ok) (hr : isR tn td t = true) (hbb : bb < W.heap.size) (hun : 1 ≤ u.n) (hts : t.sok) (hus : u.sok) (hbt : betF t u = true) (g0 : W.cell? ⟨bb, 0, none⟩ = some (.int .i64 u.n)) (z0 : W.frozen? ⟨bb, 0, none⟩ = false) (g1 : W.cell? ⟨bb, 1, none⟩ = some (.int .i64 u.w.a)) (z1 : W.frozen? ⟨bb, 1, none⟩ = false) (g2 : W.cell? ⟨bb, 2, none⟩ = some (.int .i64 u.w.b)) (z2 : W.frozen? ⟨bb, 2, none⟩ = false) (g3 : W.cell? ⟨bb, 3, none⟩ = some (.int .i64 u.w.c)) (z3 : W.frozen? ⟨bb, 3, none⟩ = false) (g4 : W.cell? ⟨bb, 4, none⟩ = some (.int .i64 u.w.p)) (z4 : W.frozen? ⟨bb, 4, none⟩ = false) (g5 : W.cell? ⟨bb, 5, none⟩ = some (.int .i64 u.w.s)) (z5 : W.frozen? ⟨bb, 5, none⟩ = false) (g6 : W.cell? ⟨bb, 6, none⟩ = some (.int .i64 u.p.a)) (z6 : W.frozen? ⟨bb, 6, none⟩ = false) (g7 : W.cell? ⟨bb, 7, none⟩ = some (.int .i64 u.p.b)) (z7 : W.frozen? ⟨bb, 7, none⟩ = false) (g8 : W.cell? ⟨bb, 8, none⟩ = some (.int .i64 u.p.c)) (z8 : W.frozen? ⟨bb, 8, none⟩ = false) (g9 : W.cell? ⟨bb, 9, none⟩ = some (.int .i64 u.p.p)) (z9 : W.frozen? ⟨bb, 9, none⟩ = false) (g10 : W.cell? ⟨bb, 10, none⟩ = some (.int .i64 u.p.s)) (z10 : W.frozen? ⟨bb, 10, none⟩ = false)
    (c0 : W.cell? ⟨bx, 0, none⟩ = some (.int .i64 t.n)) (c1 : W.cell? ⟨bx, 1, none⟩ = some (.int .i64 t.w.a)) (c2 : W.cell? ⟨bx, 2, none⟩ = some (.int .i64 t.w.b)) (c3 : W.cell? ⟨bx, 3, none⟩ = some (.int .i64 t.w.c)) (c4 : W.cell? ⟨bx, 4, none⟩ = some (.int .i64 t.w.p)) (c5 : W.cell? ⟨bx, 5, none⟩ = some (.int .i64 t.w.s))
    (c6 : W.cell? ⟨bx, 6, none⟩ = some (.int .i64 t.p.a)) (c7 : W.cell? ⟨bx, 7, none⟩ = some (.int .i64 t.p.b)) (c8 : W.cell? ⟨bx, 8, none⟩ = some (.int .i64 t.p.c)) (c9 : W.cell? ⟨bx, 9, none⟩ = some (.int .i64 t.p.p)) (c10 : W.cell? ⟨bx, 10, none⟩ = some (.int .i64 t.p.s))
    (hQ : ∀ a' W', (∃ w1, Gro W w1 ∧ W' = put11 w1 bb t) → Q .normal a' W') :
    Code.wpIn (Fence.wide.inRound l) n Try.prog bodyE Q ⟨#[v0, v1, .pointer (some ⟨b0, 0, none⟩), v3, v4, v5, v6, v7, .pointer (some ⟨bb, 0, none⟩), .pointer (some ⟨bx, 0, none⟩), v10, v11, v12, v13, v14, v15, v16, v17, v18, v19, v20, v21, v22, v23, v24, v25, v26, v27, undef, undef, undef, undef, undef, undef, undef, undef, undef, undef, undef, undef, undef, undef, undef, v43, v44, v45, v46, v47, v48], []⟩ W := by
  obtain ⟨n', ⟨a, b, c, p, s⟩, ⟨a', b', c', p', s'⟩⟩ := t
  have hR := fun W => ratio_any ⟨n', ⟨a, b, c, p, s⟩, ⟨a', b', c', p', s'⟩⟩ W ht
  unfold isR at hr
  obtain ⟨m', ⟨ua, ub, uc, up, us⟩, ⟨ua', ub', uc', up', us'⟩⟩ := u
  have hB := fun W => better_any _ _ W hts hus
  rw [hbt] at hB
  have hun0 : (m' == 0) = false := by simpa using (show m' ≠ 0 from by dsimp only at hun; omega)
  clear hbt hts hus hun
  simp only [Tr.val, Tr.cells] at *
  have H2 := fun W => Lib.hid (hB W)
  clear hB
  generalize quoN p p' = x at *
  generalize quoD p p' = y at *
  have H := fun W => Lib.hid (hR W)
  clear hR ht
  simp only [Bool.and_eq_true, beq_iff_eq] at hr
  obtain ⟨rfl, rfl⟩ := hr
  have e1 : (x == x) = true := by simp
  have e2 : (y == y) = true := by simp
  conv => arg 4; whnf
  gi_wp2_with fail
  gi_region_with ((first | (refine ⟨trivial, fun h => (by cases h), ?_⟩; gi_at_call 83; refine (CallsIn.inRound l (callsIn_wide.2 (H _).out)).mono ?_; rintro e w1 ⟨rfl, hk1⟩; have hb1 := hk1.below; have k0 := kc_below hb1 h0; have k1 := kc_below hb1 h1; have f0 := kc_below hb1 c0; have f1 := kc_below hb1 c1; have f2 := kc_below hb1 c2; have f3 := kc_below hb1 c3; have f4 := kc_below hb1 c4; have f5 := kc_below hb1 c5; have f6 := kc_below hb1 c6; have f7 := kc_below hb1 c7; have f8 := kc_below hb1 c8; have f9 := kc_below hb1 c9; have f10 := kc_below hb1 c10; have hbw := (show bb < w1.heap.size from Nat.lt_of_lt_of_le hbb hb1.size); have gg0 := kc_below hb1 g0; have zz0 := kf_below hb1 hbb z0; have gg1 := kc_below hb1 g1; have zz1 := kf_below hb1 hbb z1; have gg2 := kc_below hb1 g2; have zz2 := kf_below hb1 hbb z2; have gg3 := kc_below hb1 g3; have zz3 := kf_below hb1 hbb z3; have gg4 := kc_below hb1 g4; have zz4 := kf_below hb1 hbb z4; have gg5 := kc_below hb1 g5; have zz5 := kf_below hb1 hbb z5; have gg6 := kc_below hb1 g6; have zz6 := kf_below hb1 hbb z6; have gg7 := kc_below hb1 g7; have zz7 := kf_below hb1 hbb z7; have gg8 := kc_below hb1 g8; have zz8 := kf_below hb1 hbb z8; have gg9 := kc_below hb1 g9; have zz9 := kf_below hb1 hbb z9; have gg10 := kc_below hb1 g10; have zz10 := kf_below hb1 hbb z10) | (refine ⟨trivial, fun h => (by cases h), ?_⟩; gi_at_call 84; refine (CallsIn.inRound l (callsIn_wide.2 (H2 _).out)).mono ?_; rintro e w2 ⟨rfl, hk2⟩; have hb2 := hk2.below; have hbv := (show bb < w2.heap.size from Nat.lt_of_lt_of_le hbw hb2.size); have ff0 := kc_below hb2 f0; have hh0 := kc_below hb2 gg0; have yy0 := kf_below hb2 hbw zz0; have ff1 := kc_below hb2 f1; have hh1 := kc_below hb2 gg1; have yy1 := kf_below hb2 hbw zz1; have ff2 := kc_below hb2 f2; have hh2 := kc_below hb2 gg2; have yy2 := kf_below hb2 hbw zz2; have ff3 := kc_below hb2 f3; have hh3 := kc_below hb2 gg3; have yy3 := kf_below hb2 hbw zz3; have ff4 := kc_below hb2 f4; have hh4 := kc_below hb2 gg4; have yy4 := kf_below hb2 hbw zz4; have ff5 := kc_below hb2 f5; have hh5 := kc_below hb2 gg5; have yy5 := kf_below hb2 hbw zz5; have ff6 := kc_below hb2 f6; have hh6 := kc_below hb2 gg6; have yy6 := kf_below hb2 hbw zz6; have ff7 := kc_below hb2 f7; have hh7 := kc_below hb2 gg7; have yy7 := kf_below hb2 hbw zz7; have ff8 := kc_below hb2 f8; have hh8 := kc_below hb2 gg8; have yy8 := kf_below hb2 hbw zz8; have ff9 := kc_below hb2 f9; have hh9 := kc_below hb2 gg9; have yy9 := kf_below hb2 hbw zz9; have ff10 := kc_below hb2 f10; have hh10 := kc_below hb2 gg10; have yy10 := kf_below hb2 hbw zz10) | (refine ⟨trivial, ?_⟩)))
  all_goals gi_wp2_with fail
  all_goals exact ⟨w2, by (repeat (first | with_reducible rfl | with_reducible exact Below.refl _ _ | with_reducible exact gro_refl _ | with_reducible refine kc_drew ?_ | with_reducible refine kc_drewN _ ?_ | with_reducible refine kf_drew ?_ | with_reducible refine kf_drewN _ ?_ | with_reducible refine kc_below hb2 ?_ | with_reducible refine kc_below hb1 ?_ | ((with_reducible refine kc_new ?_ ?_); (focus (first | with_reducible rfl | (simp only [World.size_alloc, World.size_setCell, World.size_drew, size_drewN]; done))); (focus (first | rfl | (simp; done)))) | ((with_reducible refine kc_set0 ?_ ?_); (focus (first | rfl | (simp; done)))) | with_reducible refine ct_drew ?_ | with_reducible refine ct_drewN _ ?_ | with_reducible refine ct_below hb2 ?_ | with_reducible refine ct_below hb1 ?_ | ((with_reducible refine ct_new ?_ ?_); (focus (first | with_reducible rfl | (simp only [World.size_alloc, World.size_setCell, World.size_drew, size_drewN]; done))); (focus (first | rfl | (simp; done)))) | with_reducible refine ct_set _ _ ?_ | with_reducible refine ct_alloc _ ?_ | ((with_reducible refine kc_set ?_ ?_); (focus (first | (intro hx; injection hx; omega) | (simp; done)))) | with_reducible refine kc_alloc _ ?_ | ((with_reducible refine kf_new ?_ _); (focus (first | with_reducible rfl | (simp only [World.size_alloc, World.size_setCell, World.size_drew, size_drewN]; done)))) | with_reducible refine kf_set _ _ ?_ | ((with_reducible refine kf_below hb2 ?_ ?_); (focus (simp only [World.size_alloc, World.size_setCell, World.size_drew, size_drewN]; omega))) | ((with_reducible refine kf_below hb1 ?_ ?_); (focus (simp only [World.size_alloc, World.size_setCell, World.size_drew, size_drewN]; omega))) | ((with_reducible refine kf_alloc _ ?_ ?_); (focus (first | (simp only [World.size_alloc, World.size_setCell, World.size_drew, size_drewN]; omega) | (dsimp only; omega)))) | with_reducible refine bl_alloc ?_ _ | with_reducible refine bl_drew ?_ | with_reducible refine bl_drewN ?_ _ | ((with_reducible refine bl_set ?_ ?_ _); (focus (dsimp only; omega))) | with_reducible refine bl_call ?_ hb2 | with_reducible refine bl_call ?_ hb1 | with_reducible refine gro_alloc ?_ _ | with_reducible refine gro_drew ?_ | with_reducible refine gro_drewN ?_ _ | ((with_reducible refine gro_set ?_ ?_ _); (focus (first | omega | (dsimp only; omega)))) | with_reducible refine gro_call ?_ hk2 | with_reducible refine gro_call ?_ hk1)), rfl⟩

set_option maxHeartbeats 2000000 in
set_option maxRecDepth 100000 in
theorem body_no (l n : Nat) (v0 v1 v3 v4 v5 v6 v7 v10 v11 v12 v13 v14 v15 v16 v17 v18 v19 v20 v21 v22 v23 v24 v25 v26 v27 v43 v44 v45 v46 v47 v48 : Value)
    (b0 bb bx : Nat) (tn td : Int) (t u : Tr) (W : World) (Q : Exit → Act → World → Prop)
    (h0 : W.cell? ⟨b0, 0, none⟩ = some (.int .i64 tn)) (h1 : W.cell? ⟨b0, 1, none⟩ = some (.int .i64 td)) (ht : t.ok) (hr : isR tn td t = true) (hbb : bb < W.heap.size) (hun : 1 ≤ u.n) (hts : t.sok) (hus : u.sok) (hbt : betF t u = false) (g0 : W.cell? ⟨bb, 0, none⟩ = some (.int .i64 u.n)) (z0 : W.frozen? ⟨bb, 0, none⟩ = false) (g1 : W.cell? ⟨bb, 1, none⟩ = some (.int .i64 u.w.a)) (z1 : W.frozen? ⟨bb, 1, none⟩ = false) (g2 : W.cell? ⟨bb, 2, none⟩ = some (.int .i64 u.w.b)) (z2 : W.frozen? ⟨bb, 2, none⟩ = false) (g3 : W.cell? ⟨bb, 3, none⟩ = some (.int .i64 u.w.c)) (z3 : W.frozen? ⟨bb, 3, none⟩ = false) (g4 : W.cell? ⟨bb, 4, none⟩ = some (.int .i64 u.w.p)) (z4 : W.frozen? ⟨bb, 4, none⟩ = false) (g5 : W.cell? ⟨bb, 5, none⟩ = some (.int .i64 u.w.s)) (z5 : W.frozen? ⟨bb, 5, none⟩ = false) (g6 : W.cell? ⟨bb, 6, none⟩ = some (.int .i64 u.p.a)) (z6 : W.frozen? ⟨bb, 6, none⟩ = false) (g7 : W.cell? ⟨bb, 7, none⟩ = some (.int .i64 u.p.b)) (z7 : W.frozen? ⟨bb, 7, none⟩ = false) (g8 : W.cell? ⟨bb, 8, none⟩ = some (.int .i64 u.p.c)) (z8 : W.frozen? ⟨bb, 8, none⟩ = false) (g9 : W.cell? ⟨bb, 9, none⟩ = some (.int .i64 u.p.p)) (z9 : W.frozen? ⟨bb, 9, none⟩ = false) (g10 : W.cell? ⟨bb, 10, none⟩ = some (.int .i64 u.p.s)) (z10 : W.frozen? ⟨bb, 10, none⟩ = false)
    (c0 : W.cell? ⟨bx, 0, none⟩ = some (.int .i64 t.n)) (c1 : W.cell? ⟨bx, 1, none⟩ = some (.int .i64 t.w.a)) (c2 : W.cell? ⟨bx, 2, none⟩ = some (.int .i64 t.w.b)) (c3 : W.cell? ⟨bx, 3, none⟩ = some (.int .i64 t.w.c)) (c4 : W.cell? ⟨bx, 4, none⟩ = some (.int .i64 t.w.p)) (c5 : W.cell? ⟨bx, 5, none⟩ = some (.int .i64 t.w.s))
    (c6 : W.cell? ⟨bx, 6, none⟩ = some (.int .i64 t.p.a)) (c7 : W.cell? ⟨bx, 7, none⟩ = some (.int .i64 t.p.b)) (c8 : W.cell? ⟨bx, 8, none⟩ = some (.int .i64 t.p.c)) (c9 : W.cell? ⟨bx, 9, none⟩ = some (.int .i64 t.p.p)) (c10 : W.cell? ⟨bx, 10, none⟩ = some (.int .i64 t.p.s))
    (hQ : ∀ a' W', Gro W W' → Q .normal a' W') :
    Code.wpIn (Fence.wide.inRound l) n Try.prog bodyE Q ⟨#[v0, v1, .pointer (some ⟨b0, 0, none⟩), v3, v4, v5, v6, v7, .pointer (some ⟨bb, 0, none⟩), .pointer (some ⟨bx, 0, none⟩), v10, v11, v12, v13, v14, v15, v16, v17, v18, v19, v20, v21, v22, v23, v24, v25, v26, v27, undef, undef, undef, undef, undef, undef, undef, undef, undef, undef, undef, undef, undef, undef, undef, v43, v44, v45, v46, v47, v48], []⟩ W := by
  obtain ⟨n', ⟨a, b, c, p, s⟩, ⟨a', b', c', p', s'⟩⟩ := t
  have hR := fun W => ratio_any ⟨n', ⟨a, b, c, p, s⟩, ⟨a', b', c', p', s'⟩⟩ W ht
  unfold isR at hr
  obtain ⟨m', ⟨ua, ub, uc, up, us⟩, ⟨ua', ub', uc', up', us'⟩⟩ := u
  have hB := fun W => better_any _ _ W hts hus
  rw [hbt] at hB
  have hun0 : (m' == 0) = false := by simpa using (show m' ≠ 0 from by dsimp only at hun; omega)
  clear hbt hts hus hun
  simp only [Tr.val, Tr.cells] at *
  have H2 := fun W => Lib.hid (hB W)
  clear hB
  generalize quoN p p' = x at *
  generalize quoD p p' = y at *
  have H := fun W => Lib.hid (hR W)
  clear hR ht
  simp only [Bool.and_eq_true, beq_iff_eq] at hr
  obtain ⟨rfl, rfl⟩ := hr
  have e1 : (x == x) = true := by simp
  have e2 : (y == y) = true := by simp
  conv => arg 4; whnf
  gi_wp2_with fail
  gi_region_with ((first | (refine ⟨trivial, fun h => (by cases h), ?_⟩; gi_at_call 83; refine (CallsIn.inRound l (callsIn_wide.2 (H _).out)).mono ?_; rintro e w1 ⟨rfl, hk1⟩; have hb1 := hk1.below; have k0 := kc_below hb1 h0; have k1 := kc_below hb1 h1; have f0 := kc_below hb1 c0; have f1 := kc_below hb1 c1; have f2 := kc_below hb1 c2; have f3 := kc_below hb1 c3; have f4 := kc_below hb1 c4; have f5 := kc_below hb1 c5; have f6 := kc_below hb1 c6; have f7 := kc_below hb1 c7; have f8 := kc_below hb1 c8; have f9 := kc_below hb1 c9; have f10 := kc_below hb1 c10; have hbw := (show bb < w1.heap.size from Nat.lt_of_lt_of_le hbb hb1.size); have gg0 := kc_below hb1 g0; have zz0 := kf_below hb1 hbb z0; have gg1 := kc_below hb1 g1; have zz1 := kf_below hb1 hbb z1; have gg2 := kc_below hb1 g2; have zz2 := kf_below hb1 hbb z2; have gg3 := kc_below hb1 g3; have zz3 := kf_below hb1 hbb z3; have gg4 := kc_below hb1 g4; have zz4 := kf_below hb1 hbb z4; have gg5 := kc_below hb1 g5; have zz5 := kf_below hb1 hbb z5; have gg6 := kc_below hb1 g6; have zz6 := kf_below hb1 hbb z6; have gg7 := kc_below hb1 g7; have zz7 := kf_below hb1 hbb z7; have gg8 := kc_below hb1 g8; have zz8 := kf_below hb1 hbb z8; have gg9 := kc_below hb1 g9; have zz9 := kf_below hb1 hbb z9; have gg10 := kc_below hb1 g10; have zz10 := kf_below hb1 hbb z10) | (refine ⟨trivial, fun h => (by cases h), ?_⟩; gi_at_call 84; refine (CallsIn.inRound l (callsIn_wide.2 (H2 _).out)).mono ?_; rintro e w2 ⟨rfl, hk2⟩; have hb2 := hk2.below; have hbv := (show bb < w2.heap.size from Nat.lt_of_lt_of_le hbw hb2.size); have ff0 := kc_below hb2 f0; have hh0 := kc_below hb2 gg0; have yy0 := kf_below hb2 hbw zz0; have ff1 := kc_below hb2 f1; have hh1 := kc_below hb2 gg1; have yy1 := kf_below hb2 hbw zz1; have ff2 := kc_below hb2 f2; have hh2 := kc_below hb2 gg2; have yy2 := kf_below hb2 hbw zz2; have ff3 := kc_below hb2 f3; have hh3 := kc_below hb2 gg3; have yy3 := kf_below hb2 hbw zz3; have ff4 := kc_below hb2 f4; have hh4 := kc_below hb2 gg4; have yy4 := kf_below hb2 hbw zz4; have ff5 := kc_below hb2 f5; have hh5 := kc_below hb2 gg5; have yy5 := kf_below hb2 hbw zz5; have ff6 := kc_below hb2 f6; have hh6 := kc_below hb2 gg6; have yy6 := kf_below hb2 hbw zz6; have ff7 := kc_below hb2 f7; have hh7 := kc_below hb2 gg7; have yy7 := kf_below hb2 hbw zz7; have ff8 := kc_below hb2 f8; have hh8 := kc_below hb2 gg8; have yy8 := kf_below hb2 hbw zz8; have ff9 := kc_below hb2 f9; have hh9 := kc_below hb2 gg9; have yy9 := kf_below hb2 hbw zz9; have ff10 := kc_below hb2 f10; have hh10 := kc_below hb2 gg10; have yy10 := kf_below hb2 hbw zz10) | (refine ⟨trivial, ?_⟩)))
  all_goals gi_wp2_with fail
  all_goals (repeat (first | with_reducible rfl | with_reducible exact Below.refl _ _ | with_reducible exact gro_refl _ | with_reducible refine kc_drew ?_ | with_reducible refine kc_drewN _ ?_ | with_reducible refine kf_drew ?_ | with_reducible refine kf_drewN _ ?_ | with_reducible refine kc_below hb2 ?_ | with_reducible refine kc_below hb1 ?_ | ((with_reducible refine kc_new ?_ ?_); (focus (first | with_reducible rfl | (simp only [World.size_alloc, World.size_setCell, World.size_drew, size_drewN]; done))); (focus (first | rfl | (simp; done)))) | ((with_reducible refine kc_set0 ?_ ?_); (focus (first | rfl | (simp; done)))) | with_reducible refine ct_drew ?_ | with_reducible refine ct_drewN _ ?_ | with_reducible refine ct_below hb2 ?_ | with_reducible refine ct_below hb1 ?_ | ((with_reducible refine ct_new ?_ ?_); (focus (first | with_reducible rfl | (simp only [World.size_alloc, World.size_setCell, World.size_drew, size_drewN]; done))); (focus (first | rfl | (simp; done)))) | with_reducible refine ct_set _ _ ?_ | with_reducible refine ct_alloc _ ?_ | ((with_reducible refine kc_set ?_ ?_); (focus (first | (intro hx; injection hx; omega) | (simp; done)))) | with_reducible refine kc_alloc _ ?_ | ((with_reducible refine kf_new ?_ _); (focus (first | with_reducible rfl | (simp only [World.size_alloc, World.size_setCell, World.size_drew, size_drewN]; done)))) | with_reducible refine kf_set _ _ ?_ | ((with_reducible refine kf_below hb2 ?_ ?_); (focus (simp only [World.size_alloc, World.size_setCell, World.size_drew, size_drewN]; omega))) | ((with_reducible refine kf_below hb1 ?_ ?_); (focus (simp only [World.size_alloc, World.size_setCell, World.size_drew, size_drewN]; omega))) | ((with_reducible refine kf_alloc _ ?_ ?_); (focus (first | (simp only [World.size_alloc, World.size_setCell, World.size_drew, size_drewN]; omega) | (dsimp only; omega)))) | with_reducible refine bl_alloc ?_ _ | with_reducible refine bl_drew ?_ | with_reducible refine bl_drewN ?_ _ | ((with_reducible refine bl_set ?_ ?_ _); (focus (dsimp only; omega))) | with_reducible refine bl_call ?_ hb2 | with_reducible refine bl_call ?_ hb1 | with_reducible refine gro_alloc ?_ _ | with_reducible refine gro_drew ?_ | with_reducible refine gro_drewN ?_ _ | ((with_reducible refine gro_set ?_ ?_ _); (focus (first | omega | (dsimp only; omega)))) | with_reducible refine gro_call ?_ hk2 | with_reducible refine gro_call ?_ hk1))

end Go.Proofs.Ytoenimkgagndnaa
