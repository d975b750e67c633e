/- The statements' own look whether a train is one. -/
import Derived.Test.YtoenimkgagndnaaCRat
namespace Go.Proofs.Ytoenimkgagndnaa
set_option linter.unusedVariables false
set_option linter.unusedSimpArgs false
open Go.RowKit Go.Lib

def okB (most : Int) (xs ys : List Int) : Bool := decide (okT most xs ys)

set_option maxHeartbeats 2000000 in
set_option maxRecDepth 100000 in
theorem rtrain_loop (g o q p n c e : Nat) (most : Int) (xs ys : List Int) (w : World) (hxl : Hid (xs.length = n)) (hyl : Hid (ys.length = n)) (n1 : 1 ≤ n) (n6 : (n : Int) ≤ most) (nn : n ≤ 4611686018427387904) (hc : n ≤ c) (he : n ≤ e)
    (HX : Hid (∀ i, i < n → w.cell? ⟨g, o + i, none⟩ = some (.int .i64 (xs.getD i 0)))) (HY : Hid (∀ i, i < n → w.cell? ⟨q, p + i, none⟩ = some (.int .i64 (ys.getD i 0)))) :
    Calls Try.prog 35 #[.agg #[.slice (some ⟨g, o, none⟩) n c, .slice (some ⟨q, p, none⟩) n e], .int .i64 most] w fun v w' => v = .returned (.bool (okB most xs ys)) ∧ Gro w w' := by
  have hgw := World.block_lt_of_cell? _ _ (HX.out 0 (by omega))
  have hqw := World.block_lt_of_cell? _ _ (HY.out 0 (by omega))
  simp only at hgw hqw
  have t0 : ((n : Int) != (n : Int)) = false := by simp
  have n1' : (1 : Int) ≤ (n : Int) := by omega
  go_enter Try.func35, Try.ntmps35
  go_wp2_with fail
  go_loop [5] (fun u => ∃ k : Nat, k ≤ n ∧ u = .int .i64 k ∧ Hid ((∀ i, i < k → inT (xs.getD i 0)) ∧ ∀ i, i < k → inT (ys.getD i 0))) (fun u => n - (intOf u).toNat)
  case atStart => exact ⟨0, Nat.zero_le _, rfl, ⟨fun i h => by omega, fun i h => by omega⟩⟩
  case round =>
    obtain ⟨k, hk, rfl, hI⟩ := hrel
    by_cases hlt : k < n
    · have c1 : w.cell? ⟨g, o + k, none⟩ = some (.int .i64 (xs.getD k 0)) := HX.out k hlt
      have c2 : w.cell? ⟨q, p + k, none⟩ = some (.int .i64 (ys.getD k 0)) := HY.out k hlt
      have k0 : (0 : Int) ≤ (k : Int) := by omega
      have kn : (k : Int) < (n : Int) := by omega
      by_cases hx : inT (xs.getD k 0)
      · by_cases hy : inT (ys.getD k 0)
        · have hI2 : Hid ((∀ i, i < k + 1 → inT (xs.getD i 0)) ∧ ∀ i, i < k + 1 → inT (ys.getD i 0)) := by
            refine ⟨fun i hi => ?_, fun i hi => ?_⟩
            · rcases (show i < k ∨ i = k by omega) with h | h
              · exact hI.out.1 i h
              · rw [h]; exact hx
            · rcases (show i < k ∨ i = k by omega) with h | h
              · exact hI.out.2 i h
              · rw [h]; exact hy
          unfold inT at hx hy
          obtain ⟨x1, x2⟩ := hx
          obtain ⟨y1, y2⟩ := hy
          generalize xs.getD k 0 = x at *
          generalize ys.getD k 0 = y at *
          clear hI
          go_wp2_with fail
          go_round
          case rel => exact ⟨k + 1, by omega, by go_num, hI2⟩
          case measure => simp [intOf]; omega
        · have HV : Hid (false = okB most xs ys) := by
            refine (decide_eq_false fun h => hy ?_).symm
            exact all_getD.1 h.2.2.2 k (by have := hyl.out; omega)
          unfold inT at hx hy
          obtain ⟨x1, x2⟩ := hx
          generalize xs.getD k 0 = x at *
          generalize ys.getD k 0 = y at *
          clear hI
          by_cases y1 : y < 1
          · clear hy
            go_wp2_with fail
            go_ret
            exact ⟨ret_bool HV.out, by (with_reducible repeat (first | exact gro_refl _ | refine gro_alloc ?_ _ | refine gro_drew ?_ | refine gro_drewN ?_ _ | (refine gro_set ?_ ?_ _; (focus first | omega | (dsimp only; omega)))))⟩
          · have y2 : 200 < y := by omega
            have y3 : 1 ≤ y := by omega
            clear hy
            go_wp2_with fail
            go_ret
            exact ⟨ret_bool HV.out, by (with_reducible repeat (first | exact gro_refl _ | refine gro_alloc ?_ _ | refine gro_drew ?_ | refine gro_drewN ?_ _ | (refine gro_set ?_ ?_ _; (focus first | omega | (dsimp only; omega)))))⟩
      · have HV : Hid (false = okB most xs ys) := by
          refine (decide_eq_false fun h => hx ?_).symm
          exact all_getD.1 h.2.2.1 k (by have := hxl.out; omega)
        unfold inT at hx
        generalize xs.getD k 0 = x at *
        generalize ys.getD k 0 = y at *
        clear hI
        by_cases x1 : x < 1
        · clear hx
          go_wp2_with fail
          go_ret
          exact ⟨ret_bool HV.out, by (with_reducible repeat (first | exact gro_refl _ | refine gro_alloc ?_ _ | refine gro_drew ?_ | refine gro_drewN ?_ _ | (refine gro_set ?_ ?_ _; (focus first | omega | (dsimp only; omega)))))⟩
        · have x2 : 200 < x := by omega
          have x3 : 1 ≤ x := by omega
          clear hx
          go_wp2_with fail
          go_ret
          exact ⟨ret_bool HV.out, by (with_reducible repeat (first | exact gro_refl _ | refine gro_alloc ?_ _ | refine gro_drew ?_ | refine gro_drewN ?_ _ | (refine gro_set ?_ ?_ _; (focus first | omega | (dsimp only; omega)))))⟩
    · obtain rfl : k = n := by omega
      have HV : Hid (true = okB most xs ys) := by
        refine (decide_eq_true ?_).symm
        refine ⟨⟨by have := hxl.out; omega, by have := hxl.out; omega⟩, by have := hxl.out; have := hyl.out; omega, ?_, ?_⟩
        · exact all_getD.2 fun i hi => hI.out.1 i (by have := hxl.out; omega)
        · exact all_getD.2 fun i hi => hI.out.2 i (by have := hyl.out; omega)
      clear hI
      go_wp2_with fail
      go_ret
      exact ⟨ret_bool HV.out, by (with_reducible repeat (first | exact gro_refl _ | refine gro_alloc ?_ _ | refine gro_drew ?_ | refine gro_drewN ?_ _ | (refine gro_set ?_ ?_ _; (focus first | omega | (dsimp only; omega)))))⟩

set_option maxHeartbeats 1000000 in
theorem rtrain_any (a b : Option Addr) (n c m e : Nat) (most : Int) (xs ys : List Int) (w : World) (hx : Rd w (.slice a n c) xs) (hy : Rd w (.slice b m e) ys) (hn : n ≤ 4611686018427387904) (hm : m ≤ 4611686018427387904) :
    Calls Try.prog 35 #[.agg #[.slice a n c, .slice b m e], .int .i64 most] w fun v w' => v = .returned (.bool (okB most xs ys)) ∧ Gro w w' := by
  obtain ⟨a', c', ha, hxc, hx⟩ := hx
  simp only [Value.slice.injEq] at ha
  obtain ⟨rfl, hxl, rfl⟩ := ha
  obtain ⟨b', e', hb, hyc, hy⟩ := hy
  simp only [Value.slice.injEq] at hb
  obtain ⟨rfl, hyl, rfl⟩ := hb
  by_cases h1 : n < 1
  · have HV := Lib.hid (show false = okB most xs ys from (decide_eq_false fun h => by have := h.1.1; omega).symm)
    have h2 : (n : Int) < 1 := by omega
    clear hx hy hxl hyl hxc hyc
    go_enter Try.func35, Try.ntmps35
    go_wp2_with fail
    go_ret
    exact ⟨ret_bool HV.out, by (with_reducible repeat (first | exact gro_refl _ | refine gro_alloc ?_ _ | refine gro_drew ?_ | refine gro_drewN ?_ _ | (refine gro_set ?_ ?_ _; (focus first | omega | (dsimp only; omega)))))⟩
  · have h1' : (1 : Int) ≤ (n : Int) := by omega
    by_cases h2 : most < (n : Int)
    · have HV := Lib.hid (show false = okB most xs ys from (decide_eq_false fun h => by have := h.1.2; omega).symm)
      clear hx hy hxl hyl hxc hyc
      go_enter Try.func35, Try.ntmps35
      go_wp2_with fail
      go_ret
      exact ⟨ret_bool HV.out, by (with_reducible repeat (first | exact gro_refl _ | refine gro_alloc ?_ _ | refine gro_drew ?_ | refine gro_drewN ?_ _ | (refine gro_set ?_ ?_ _; (focus first | omega | (dsimp only; omega)))))⟩
    · have h2' : (n : Int) ≤ most := by omega
      by_cases h3 : m = n
      · subst h3
        rcases hx with rfl | ⟨g, o, rfl, hx⟩
        · simp at hxl; omega
        · rcases hy with rfl | ⟨q, p, rfl, hy⟩
          · simp at hyl; omega
          · exact rtrain_loop g o q p m c e most xs ys w hxl.symm hyl.symm (by omega) h2' (by omega) (by omega) (by omega) (fun i hi => hx i (by omega)) (fun i hi => hy i (by omega))
      · have HV := Lib.hid (show false = okB most xs ys from (decide_eq_false fun h => by have := h.2.1; omega).symm)
        have t0 : ((m : Int) != (n : Int)) = true := by simp; omega
        clear hx hy hxl hyl hxc hyc h3
        go_enter Try.func35, Try.ntmps35
        go_wp2_with fail
        go_ret
        exact ⟨ret_bool HV.out, by (with_reducible repeat (first | exact gro_refl _ | refine gro_alloc ?_ _ | refine gro_drew ?_ | refine gro_drewN ?_ _ | (refine gro_set ?_ ?_ _; (focus first | omega | (dsimp only; omega)))))⟩
end Go.Proofs.Ytoenimkgagndnaa
