/- Walks of package gear on fractions: compare. -/
import Derived.Test.YtmigddempeecoaaFrac
import Derived.Deep.RegionHeld3
import Derived.Deep.DeepCutAuto
namespace Go.Proofs.Ytmigddempeecoaa
set_option linter.unusedVariables false
set_option linter.unusedSimpArgs false
open Go.RowKit

theorem wv_split (x : Int) : wv (x / 18446744073709551616) (x % 18446744073709551616) = x := by unfold wv; omega

/-- What compare returns. -/
def cmpF (n d m e : Int) : Int := cmpZ (n * e) (m * d)

/-- A number below 2^128 in a block. -/
def wAt (W : World) (g : Nat) (x : Int) : Prop := W.cell? ⟨g, 0, none⟩ = some (.int .u64 (x / 18446744073709551616)) ∧ W.cell? ⟨g, 1, none⟩ = some (.int .u64 (x % 18446744073709551616))
/-- A fraction in a block. -/
def fAt (W : World) (g : Nat) (n d : Int) : Prop := W.cell? ⟨g, 0, none⟩ = some (.int .i64 n) ∧ W.cell? ⟨g, 1, none⟩ = some (.int .i64 d)

/-- The first product is made. -/
def CutA (w : World) (x : Int) (n d m e : Int) (s : Value) (wx : World) : Prop := ∃ g : Nat, s = .pointer (some ⟨g, 0, none⟩) ∧ wAt wx g x ∧ fAt wx w.heap.size n d ∧ fAt wx (w.heap.size + 1) m e ∧ Gro w wx
/-- Both products are made. -/
def CutB (w : World) (x y : Int) (n d : Int) (g : Nat) (s : Value) (wx : World) : Prop := ∃ k : Nat, s = .pointer (some ⟨k, 0, none⟩) ∧ wAt wx k y ∧ wAt wx g x ∧ fAt wx w.heap.size n d ∧ Gro w wx

theorem four (w : World) (x y z u : Int) (s t : TypeId) : fAt ((w.alloc (.cells #[.int .i64 x, .int .i64 y] s)).alloc (.cells #[.int .i64 z, .int .i64 u] t)) w.heap.size x y ∧ fAt ((w.alloc (.cells #[.int .i64 x, .int .i64 y] s)).alloc (.cells #[.int .i64 z, .int .i64 u] t)) (w.heap.size + 1) z u := by
  refine ⟨⟨?_, ?_⟩, ⟨?_, ?_⟩⟩
  all_goals (repeat (first | with_reducible rfl | with_reducible exact Below.refl _ _ | with_reducible exact gro_refl _ | with_reducible refine kc_drew ?_ | with_reducible refine kc_drewN _ ?_ | with_reducible refine kf_drew ?_ | with_reducible refine kf_drewN _ ?_ | ((with_reducible refine kc_new ?_ ?_); (focus (first | with_reducible rfl | (simp only [World.size_alloc, World.size_setCell, World.size_drew, size_drewN]; done))); (focus (first | rfl | (simp; done)))) | ((with_reducible refine kc_set0 ?_ ?_); (focus (first | rfl | (simp; done)))) | with_reducible refine ct_drew ?_ | with_reducible refine ct_drewN _ ?_ | ((with_reducible refine ct_new ?_ ?_); (focus (first | with_reducible rfl | (simp only [World.size_alloc, World.size_setCell, World.size_drew, size_drewN]; done))); (focus (first | rfl | (simp; done)))) | with_reducible refine ct_set _ _ ?_ | with_reducible refine ct_alloc _ ?_ | ((with_reducible refine kc_set ?_ ?_); (focus (first | (intro hx; injection hx; omega) | (simp; done)))) | with_reducible refine kc_alloc _ ?_ | ((with_reducible refine kf_new ?_ _); (focus (first | with_reducible rfl | (simp only [World.size_alloc, World.size_setCell, World.size_drew, size_drewN]; done)))) | with_reducible refine kf_set _ _ ?_ | ((with_reducible refine kf_alloc _ ?_ ?_); (focus (first | (simp only [World.size_alloc, World.size_setCell, World.size_drew, size_drewN]; omega) | (dsimp only; omega)))) | with_reducible refine bl_alloc ?_ _ | with_reducible refine bl_drew ?_ | with_reducible refine bl_drewN ?_ _ | ((with_reducible refine bl_set ?_ ?_ _); (focus (dsimp only; omega))) | with_reducible refine gro_alloc ?_ _ | with_reducible refine gro_drew ?_ | with_reducible refine gro_drewN ?_ _ | ((with_reducible refine gro_set ?_ ?_ _); (focus (first | omega | (dsimp only; omega))))))

theorem cmp_abs {n d m e : Int} {s : Bool} (hs : (n < 0) = (m < 0)) (hsb : decide (n < 0) = s) (hd : 1 ≤ d) (he : 1 ≤ e) :
    (if s = true then cmpZ ((m.natAbs : Int) * (d.natAbs : Int)) ((n.natAbs : Int) * (e.natAbs : Int)) else cmpZ ((n.natAbs : Int) * (e.natAbs : Int)) ((m.natAbs : Int) * (d.natAbs : Int))) = cmpF n d m e := by
  have ed : (d.natAbs : Int) = d := by omega
  have ee : (e.natAbs : Int) = e := by omega
  rw [ed, ee]
  by_cases h : n < 0
  · have hm : m < 0 := by rw [← hs]; exact h
    have en : (n.natAbs : Int) = -n := by omega
    have em : (m.natAbs : Int) = -m := by omega
    rw [← hsb, en, em, Int.neg_mul, Int.neg_mul]
    simp only [h, decide_true, if_true]
    unfold cmpF cmpZ
    generalize n * e = a
    generalize m * d = b
    by_cases h1 : a < b
    · rw [if_pos (by omega), if_pos h1]
    · by_cases h2 : b < a
      · rw [if_neg (by omega), if_pos (by omega), if_neg h1, if_pos h2]
      · rw [if_neg (by omega), if_neg (by omega), if_neg h1, if_neg h2]
  · have hm : ¬ m < 0 := by rw [← hs]; exact h
    have en : (n.natAbs : Int) = n := by omega
    have em : (m.natAbs : Int) = m := by omega
    rw [← hsb, en, em]
    simp only [h, decide_false]
    rfl

theorem cmp_sign {n d m e : Int} (hs : ¬ ((n < 0) = (m < 0))) (hd : 1 ≤ d) (he : 1 ≤ e) : cmpZ n m = cmpF n d m e := by
  unfold cmpF
  by_cases h : n < 0
  · have hm : 0 ≤ m := by
      rcases (show m < 0 ∨ 0 ≤ m by omega) with hm | hm
      · exact absurd (propext ⟨fun _ => hm, fun _ => h⟩) hs
      · exact hm
    have h1 : n * e < 0 := Int.mul_neg_of_neg_of_pos h (by omega)
    have h2 : 0 ≤ m * d := Int.mul_nonneg hm (by omega)
    rw [cmpZ_lt (by omega), cmpZ_lt (by omega)]
  · have hm : m < 0 := by
      rcases (show m < 0 ∨ 0 ≤ m by omega) with hm | hm
      · exact hm
      · exact absurd (propext ⟨fun h' => absurd h' h, fun h' => by omega⟩) hs
    have h1 : m * d < 0 := Int.mul_neg_of_neg_of_pos hm (by omega)
    have h2 : 0 ≤ n * e := Int.mul_nonneg (by omega) (by omega)
    rw [cmpZ_gt (by omega), cmpZ_gt (by omega)]

set_option maxHeartbeats 2000000 in
set_option maxRecDepth 100000 in
theorem compare_same (n d m e : Int) (w : World) (hs : (n < 0) = (m < 0)) (hn : -9223372036854775808 ≤ n) (hn' : n ≤ 9223372036854775807) (hm : -9223372036854775808 ≤ m) (hm' : m ≤ 9223372036854775807)
    (hd : 1 ≤ d) (hd' : d ≤ 9223372036854775807) (he : 1 ≤ e) (he' : e ≤ 9223372036854775807) (s : Bool) (hsb : decide (n < 0) = s) :
    Calls Try.prog 62 #[.agg #[.int .i64 n, .int .i64 d], .agg #[.int .i64 m, .int .i64 e]] w fun v w' => v = .returned (.int .i64 (cmpF n d m e)) ∧ Gro w w' := by
  have t3 : decide (m < 0) = s := by rw [← hsb]; simp only [hs]
  have t1 : (s != s) = false := by simp
  have hq : (if s = true then cmpZ ((m.natAbs : Int) * (d.natAbs : Int)) ((n.natAbs : Int) * (e.natAbs : Int)) else cmpZ ((n.natAbs : Int) * (e.natAbs : Int)) ((m.natAbs : Int) * (d.natAbs : Int))) = cmpF n d m e := by
    exact cmp_abs hs hsb hd he
  have hpn : n.natAbs ≤ 18446744073709551615 := by omega
  have hpm : m.natAbs ≤ 18446744073709551615 := by omega
  have Q := Lib.hid hq
  have F := Lib.hid (four w n d m e 23 23)
  clear hq hs
  cases s
  all_goals
    go_enter Try.func62, Try.ntmps62
    go_upto_region 3 with fail
    go_cut [5] (fun s wx => CutA w ((n.natAbs : Int) * (e.natAbs : Int)) n d m e s wx)
    case first =>
      go_region_held3 (fun w' => (w'.cell? ⟨w.heap.size, 0, none⟩ = some (.int .i64 n) ∧ w'.cell? ⟨w.heap.size, 1, none⟩ = some (.int .i64 d)) ∧ w'.cell? ⟨w.heap.size + 1, 0, none⟩ = some (.int .i64 m) ∧ w'.cell? ⟨w.heap.size + 1, 1, none⟩ = some (.int .i64 e))
        (((try dsimp only); (repeat' apply And.intro)) <;> (repeat (first | with_reducible exact F.out.1.1 | with_reducible exact F.out.1.2 | with_reducible exact F.out.2.1 | with_reducible exact F.out.2.2 | with_reducible rfl | with_reducible exact Below.refl _ _ | with_reducible exact gro_refl _ | with_reducible refine kc_drew ?_ | with_reducible refine kc_drewN _ ?_ | with_reducible refine kf_drew ?_ | with_reducible refine kf_drewN _ ?_ | with_reducible refine kc_below hb1 ?_ | ((with_reducible refine kc_new ?_ ?_); (focus (first | with_reducible rfl | (simp only [World.size_alloc, World.size_setCell, World.size_drew, size_drewN]; done))); (focus (first | rfl | (simp; done)))) | ((with_reducible refine kc_set0 ?_ ?_); (focus (first | rfl | (simp; done)))) | with_reducible exact ct_of (F.out.1.1) | with_reducible exact ct_of (F.out.1.2) | with_reducible exact ct_of (F.out.2.1) | with_reducible exact ct_of (F.out.2.2) | with_reducible refine ct_drew ?_ | with_reducible refine ct_drewN _ ?_ | with_reducible refine ct_below hb1 ?_ | ((with_reducible refine ct_new ?_ ?_); (focus (first | with_reducible rfl | (simp only [World.size_alloc, World.size_setCell, World.size_drew, size_drewN]; done))); (focus (first | rfl | (simp; done)))) | with_reducible refine ct_set _ _ ?_ | with_reducible refine ct_alloc _ ?_ | ((with_reducible refine kc_set ?_ ?_); (focus (first | (intro hx; injection hx; omega) | (simp; done)))) | with_reducible refine kc_alloc _ ?_ | ((with_reducible refine kf_new ?_ _); (focus (first | with_reducible rfl | (simp only [World.size_alloc, World.size_setCell, World.size_drew, size_drewN]; done)))) | with_reducible refine kf_set _ _ ?_ | ((with_reducible refine kf_below hb1 ?_ ?_); (focus (simp only [World.size_alloc, World.size_setCell, World.size_drew, size_drewN]; omega))) | ((with_reducible refine kf_alloc _ ?_ ?_); (focus (first | (simp only [World.size_alloc, World.size_setCell, World.size_drew, size_drewN]; omega) | (dsimp only; omega)))) | with_reducible refine bl_alloc ?_ _ | with_reducible refine bl_drew ?_ | with_reducible refine bl_drewN ?_ _ | ((with_reducible refine bl_set ?_ ?_ _); (focus (dsimp only; omega))) | with_reducible refine bl_call ?_ hb1 | with_reducible refine gro_alloc ?_ _ | with_reducible refine gro_drew ?_ | with_reducible refine gro_drewN ?_ _ | ((with_reducible refine gro_set ?_ ?_ _); (focus (first | omega | (dsimp only; omega)))) | with_reducible refine gro_call ?_ hk1)))
        (first | (go_at_call 53; refine (mag_any _ _ (by omega) (by omega)).mono ?_; rintro e w' ⟨rfl, rfl⟩) | (go_at_call 95; refine (product_any _ _ _ (by omega) (by omega) (by omega) (by omega)).mono ?_; rintro e w1 ⟨rfl, hk1⟩; have hb1 := hk1.below; obtain ⟨hc1, hf1⟩ := bcell hb1; simp only [World.size_alloc, World.size_drew] at hc1 hf1; have hz1 : w.heap.size + 2 ≤ w1.heap.size := (by have := hb1.size; simp only [World.size_alloc, World.size_drew] at this; omega)))
      all_goals go_wp2_with fail
      all_goals go_meet
      all_goals refine ⟨_, rfl, ⟨?_, ?_⟩, ⟨?_, ?_⟩, ⟨?_, ?_⟩, ?_⟩
      all_goals (repeat (first | with_reducible exact F.out.1.1 | with_reducible exact F.out.1.2 | with_reducible exact F.out.2.1 | with_reducible exact F.out.2.2 | with_reducible rfl | with_reducible exact Below.refl _ _ | with_reducible exact gro_refl _ | with_reducible refine kc_drew ?_ | with_reducible refine kc_drewN _ ?_ | with_reducible refine kf_drew ?_ | with_reducible refine kf_drewN _ ?_ | with_reducible refine kc_below hb1 ?_ | ((with_reducible refine kc_new ?_ ?_); (focus (first | with_reducible rfl | (simp only [World.size_alloc, World.size_setCell, World.size_drew, size_drewN]; done))); (focus (first | rfl | (simp; done)))) | ((with_reducible refine kc_set0 ?_ ?_); (focus (first | rfl | (simp; done)))) | with_reducible exact ct_of (F.out.1.1) | with_reducible exact ct_of (F.out.1.2) | with_reducible exact ct_of (F.out.2.1) | with_reducible exact ct_of (F.out.2.2) | with_reducible refine ct_drew ?_ | with_reducible refine ct_drewN _ ?_ | with_reducible refine ct_below hb1 ?_ | ((with_reducible refine ct_new ?_ ?_); (focus (first | with_reducible rfl | (simp only [World.size_alloc, World.size_setCell, World.size_drew, size_drewN]; done))); (focus (first | rfl | (simp; done)))) | with_reducible refine ct_set _ _ ?_ | with_reducible refine ct_alloc _ ?_ | ((with_reducible refine kc_set ?_ ?_); (focus (first | (intro hx; injection hx; omega) | (simp; done)))) | with_reducible refine kc_alloc _ ?_ | ((with_reducible refine kf_new ?_ _); (focus (first | with_reducible rfl | (simp only [World.size_alloc, World.size_setCell, World.size_drew, size_drewN]; done)))) | with_reducible refine kf_set _ _ ?_ | ((with_reducible refine kf_below hb1 ?_ ?_); (focus (simp only [World.size_alloc, World.size_setCell, World.size_drew, size_drewN]; omega))) | ((with_reducible refine kf_alloc _ ?_ ?_); (focus (first | (simp only [World.size_alloc, World.size_setCell, World.size_drew, size_drewN]; omega) | (dsimp only; omega)))) | with_reducible refine bl_alloc ?_ _ | with_reducible refine bl_drew ?_ | with_reducible refine bl_drewN ?_ _ | ((with_reducible refine bl_set ?_ ?_ _); (focus (dsimp only; omega))) | with_reducible refine bl_call ?_ hb1 | with_reducible refine gro_alloc ?_ _ | with_reducible refine gro_drew ?_ | with_reducible refine gro_drewN ?_ _ | ((with_reducible refine gro_set ?_ ?_ _); (focus (first | omega | (dsimp only; omega)))) | with_reducible refine gro_call ?_ hk1))
    case rest =>
      obtain ⟨g, rfl, ⟨h0, h1⟩, ⟨h2, h3⟩, ⟨h4, h5⟩, hB⟩ := hcut
      have hg := World.block_lt_of_cell? _ _ h0
      have hgb : w.heap.size + 1 < wc.heap.size := World.block_lt_of_cell? _ _ h4
      have hX := mul_hi (x := (n.natAbs : Int)) (y := (e.natAbs : Int)) (by omega) (by omega) (by omega) (by omega)
      have hY := mul_hi (x := (m.natAbs : Int)) (y := (d.natAbs : Int)) (by omega) (by omega) (by omega) (by omega)
      go_upto_region 4 with fail
      go_cut [6] (fun s wx => CutB w ((n.natAbs : Int) * (e.natAbs : Int)) ((m.natAbs : Int) * (d.natAbs : Int)) n d g s wx)
      case first =>
        go_region_held3 (fun w' => (w'.cell? ⟨w.heap.size, 0, none⟩ = some (.int .i64 n) ∧ w'.cell? ⟨w.heap.size, 1, none⟩ = some (.int .i64 d)) ∧ w'.cell? ⟨w.heap.size + 1, 0, none⟩ = some (.int .i64 m) ∧ w'.cell? ⟨w.heap.size + 1, 1, none⟩ = some (.int .i64 e))
          (((try dsimp only); (repeat' apply And.intro)) <;> (repeat (first | with_reducible exact h2 | with_reducible exact h3 | with_reducible exact h4 | with_reducible exact h5 | with_reducible rfl | with_reducible exact Below.refl _ _ | with_reducible exact gro_refl _ | with_reducible refine kc_drew ?_ | with_reducible refine kc_drewN _ ?_ | with_reducible refine kf_drew ?_ | with_reducible refine kf_drewN _ ?_ | with_reducible refine kc_below hb1 ?_ | ((with_reducible refine kc_new ?_ ?_); (focus (first | with_reducible rfl | (simp only [World.size_alloc, World.size_setCell, World.size_drew, size_drewN]; done))); (focus (first | rfl | (simp; done)))) | ((with_reducible refine kc_set0 ?_ ?_); (focus (first | rfl | (simp; done)))) | with_reducible exact ct_of (h2) | with_reducible exact ct_of (h3) | with_reducible exact ct_of (h4) | with_reducible exact ct_of (h5) | with_reducible refine ct_drew ?_ | with_reducible refine ct_drewN _ ?_ | with_reducible refine ct_below hb1 ?_ | ((with_reducible refine ct_new ?_ ?_); (focus (first | with_reducible rfl | (simp only [World.size_alloc, World.size_setCell, World.size_drew, size_drewN]; done))); (focus (first | rfl | (simp; done)))) | with_reducible refine ct_set _ _ ?_ | with_reducible refine ct_alloc _ ?_ | ((with_reducible refine kc_set ?_ ?_); (focus (first | (intro hx; injection hx; omega) | (simp; done)))) | with_reducible refine kc_alloc _ ?_ | ((with_reducible refine kf_new ?_ _); (focus (first | with_reducible rfl | (simp only [World.size_alloc, World.size_setCell, World.size_drew, size_drewN]; done)))) | with_reducible refine kf_set _ _ ?_ | ((with_reducible refine kf_below hb1 ?_ ?_); (focus (simp only [World.size_alloc, World.size_setCell, World.size_drew, size_drewN]; omega))) | ((with_reducible refine kf_alloc _ ?_ ?_); (focus (first | (simp only [World.size_alloc, World.size_setCell, World.size_drew, size_drewN]; omega) | (dsimp only; omega)))) | with_reducible refine bl_alloc ?_ _ | with_reducible refine bl_drew ?_ | with_reducible refine bl_drewN ?_ _ | ((with_reducible refine bl_set ?_ ?_ _); (focus (dsimp only; omega))) | with_reducible refine bl_call ?_ hb1 | with_reducible refine gro_alloc ?_ _ | with_reducible refine gro_drew ?_ | with_reducible refine gro_drewN ?_ _ | ((with_reducible refine gro_set ?_ ?_ _); (focus (first | omega | (dsimp only; omega)))) | with_reducible refine gro_call ?_ hk1)))
          (first | (go_at_call 53; refine (mag_any _ _ (by omega) (by omega)).mono ?_; rintro e w' ⟨rfl, rfl⟩) | (go_at_call 95; refine (product_any _ _ _ (by omega) (by omega) (by omega) (by omega)).mono ?_; rintro e w1 ⟨rfl, hk1⟩; have hb1 := hk1.below; obtain ⟨hc1, hf1⟩ := bcell hb1; simp only [World.size_alloc, World.size_drew] at hc1 hf1; have hz1 : wc.heap.size ≤ w1.heap.size := (by have := hb1.size; simp only [World.size_alloc, World.size_drew] at this; omega)))
        all_goals go_wp2_with fail
        all_goals go_meet
        all_goals refine ⟨_, rfl, ⟨?_, ?_⟩, ⟨?_, ?_⟩, ⟨?_, ?_⟩, ?_⟩
        all_goals (repeat (first | with_reducible exact h0 | with_reducible exact h1 | with_reducible exact h2 | with_reducible exact h3 | with_reducible exact h4 | with_reducible exact h5 | with_reducible exact hB | with_reducible rfl | with_reducible exact Below.refl _ _ | with_reducible exact gro_refl _ | with_reducible refine kc_drew ?_ | with_reducible refine kc_drewN _ ?_ | with_reducible refine kf_drew ?_ | with_reducible refine kf_drewN _ ?_ | with_reducible refine kc_below hb1 ?_ | ((with_reducible refine kc_new ?_ ?_); (focus (first | with_reducible rfl | (simp only [World.size_alloc, World.size_setCell, World.size_drew, size_drewN]; done))); (focus (first | rfl | (simp; done)))) | ((with_reducible refine kc_set0 ?_ ?_); (focus (first | rfl | (simp; done)))) | with_reducible exact ct_of (h0) | with_reducible exact ct_of (h1) | with_reducible exact ct_of (h2) | with_reducible exact ct_of (h3) | with_reducible exact ct_of (h4) | with_reducible exact ct_of (h5) | with_reducible exact ct_of (hB) | with_reducible refine ct_drew ?_ | with_reducible refine ct_drewN _ ?_ | with_reducible refine ct_below hb1 ?_ | ((with_reducible refine ct_new ?_ ?_); (focus (first | with_reducible rfl | (simp only [World.size_alloc, World.size_setCell, World.size_drew, size_drewN]; done))); (focus (first | rfl | (simp; done)))) | with_reducible refine ct_set _ _ ?_ | with_reducible refine ct_alloc _ ?_ | ((with_reducible refine kc_set ?_ ?_); (focus (first | (intro hx; injection hx; omega) | (simp; done)))) | with_reducible refine kc_alloc _ ?_ | ((with_reducible refine kf_new ?_ _); (focus (first | with_reducible rfl | (simp only [World.size_alloc, World.size_setCell, World.size_drew, size_drewN]; done)))) | with_reducible refine kf_set _ _ ?_ | ((with_reducible refine kf_below hb1 ?_ ?_); (focus (simp only [World.size_alloc, World.size_setCell, World.size_drew, size_drewN]; omega))) | ((with_reducible refine kf_alloc _ ?_ ?_); (focus (first | (simp only [World.size_alloc, World.size_setCell, World.size_drew, size_drewN]; omega) | (dsimp only; omega)))) | with_reducible refine bl_alloc ?_ _ | with_reducible refine bl_drew ?_ | with_reducible refine bl_drewN ?_ _ | ((with_reducible refine bl_set ?_ ?_ _); (focus (dsimp only; omega))) | with_reducible refine bl_call ?_ hb1 | with_reducible refine gro_alloc ?_ _ | with_reducible refine gro_drew ?_ | with_reducible refine gro_drewN ?_ _ | ((with_reducible refine gro_set ?_ ?_ _); (focus (first | omega | (dsimp only; omega)))) | with_reducible refine gro_call ?_ hk1))
      case rest =>
        obtain ⟨k, rfl, ⟨k0, k1⟩, ⟨k2, k3⟩, ⟨k4, k5⟩, hB2⟩ := hcut
        go_wp2_with (go_at_call 88; refine (wcmp_any _ _ _ _ _ (by omega) (by omega) (by omega) (by omega) (by omega) (by omega) (by omega) (by omega)).mono ?_; rintro e w2 ⟨rfl, hk2⟩)
        go_ret
        exact ⟨ret_i64 (by have := Q.out; rw [wv_split, wv_split]; simpa using this), gro_call hB2 hk2⟩

theorem compare_any (n d m e : Int) (w : World) (hn : -9223372036854775808 ≤ n) (hn' : n ≤ 9223372036854775807) (hm : -9223372036854775808 ≤ m) (hm' : m ≤ 9223372036854775807)
    (hd : 1 ≤ d) (hd' : d ≤ 9223372036854775807) (he : 1 ≤ e) (he' : e ≤ 9223372036854775807) :
    Calls Try.prog 62 #[.agg #[.int .i64 n, .int .i64 d], .agg #[.int .i64 m, .int .i64 e]] w fun v w' => v = .returned (.int .i64 (cmpF n d m e)) ∧ Gro w w' := by
  by_cases hs : (n < 0) = (m < 0)
  · exact compare_same n d m e w hs hn hn' hm hm' hd hd' he he' _ rfl
  · have Q := Lib.hid (cmp_sign hs hd he)
    by_cases h : n < 0
    · have hm0 : ¬ m < 0 := fun k => hs (propext ⟨fun _ => k, fun _ => h⟩)
      have t2 : decide (n < 0) = true := by simpa using h
      have t3 : decide (m < 0) = false := by simpa using hm0
      clear hs hm0 h
      go_enter Try.func62, Try.ntmps62
      go_wp2_with (go_at_call 94; refine (cmpI_any _ _ _).mono ?_; rintro e w' ⟨rfl, rfl⟩)
      go_ret
      exact ⟨ret_i64 Q.out, gro_alloc (gro_alloc (gro_refl _) _) _⟩
    · have hm0 : m < 0 := Classical.byContradiction fun k => hs (propext ⟨fun x => absurd x h, fun x => absurd x k⟩)
      have t2 : decide (n < 0) = false := by simpa using h
      have t3 : decide (m < 0) = true := by simpa using hm0
      clear hs hm0 h
      go_enter Try.func62, Try.ntmps62
      go_wp2_with (go_at_call 94; refine (cmpI_any _ _ _).mono ?_; rintro e w' ⟨rfl, rfl⟩)
      go_ret
      exact ⟨ret_i64 Q.out, gro_alloc (gro_alloc (gro_refl _) _) _⟩
end Go.Proofs.Ytmigddempeecoaa
