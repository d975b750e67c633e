/- Walks of the statements' own helper same; slices of integers that are only read. -/
import Derived.Test.YtmigddempeecoaaGiven
import Derived.LoopTactic
import Derived.LoopN
namespace Go.Proofs.Ytmigddempeecoaa
set_option linter.unusedVariables false
set_option linter.unusedSimpArgs false
open Go.RowKit Go.Lib

/-- A slice of integers reads as a list. -/
def Rd (W : World) (v : Value) (xs : List Int) : Prop :=
  ∃ (a : Option Addr) (cap : Nat), v = .slice a xs.length cap ∧ xs.length ≤ cap ∧ (xs = [] ∨ ∃ g o, a = some ⟨g, o, none⟩ ∧ ∀ i, i < xs.length → W.cell? ⟨g, o + i, none⟩ = some (.int .i64 (xs.getD i 0)))
theorem Rd.below {W W1 : World} {v : Value} {xs : List Int} (h : Rd W v xs) (hb : Below W.heap.size W W1) : Rd W1 v xs := by
  obtain ⟨a, cap, rfl, hc, h⟩ := h
  refine ⟨a, cap, rfl, hc, h.imp_right ?_⟩
  rintro ⟨g, o, rfl, hc2⟩
  exact ⟨g, o, rfl, fun i hi => kc_below hb (hc2 i hi)⟩

def sameB (xs ys : List Int) : Bool := decide (xs = ys)
theorem ext_getD {xs ys : List Int} (hl : xs.length = ys.length) (h : ∀ i, i < xs.length → xs.getD i 0 = ys.getD i 0) : xs = ys := by
  apply List.ext_getElem hl
  intro i h1 h2
  have := h i h1
  simpa [h1, h2] using this

set_option maxHeartbeats 1000000 in
theorem same_eq (N g o cap q p cap' : Nat) (xs ys : List Int) (w : World) (hx : Hid (xs.length = N)) (hy : Hid (ys.length = N)) (hN : N ≤ 4611686018427387904) (hc : N ≤ cap) (hc' : N ≤ cap')
    (HV : Hid (∀ i, i < xs.length → w.cell? ⟨g, o + i, none⟩ = some (.int .i64 (xs.getD i 0)))) (HU : Hid (∀ i, i < ys.length → w.cell? ⟨q, p + i, none⟩ = some (.int .i64 (ys.getD i 0)))) :
    Calls Try.prog 60 #[.slice (some ⟨g, o, none⟩) N cap, .slice (some ⟨q, p, none⟩) N cap'] w fun e w' => e = .returned (.bool (sameB xs ys)) ∧ Gro w w' := by
  have t0 : ((N : Int) != (N : Int)) = false := by simp
  go_enter Try.func60, Try.ntmps60
  go_wp2_with fail
  go_loopw [5] (fun t wr => ∃ k n : Nat, k ≤ N ∧ t = .int .i64 k ∧ Hid (∀ j, j < k → xs.getD j 0 = ys.getD j 0) ∧ wr = w.drewN n) (fun t _ => N - (intOf t).toNat)
  case atStart => exact ⟨0, 0, Nat.zero_le _, rfl, fun j h => by omega, rfl⟩
  case round =>
    obtain ⟨k, n, hk, rfl, hE, rfl⟩ := hrel
    by_cases hlt : k < N
    · have c1 : w.cell? ⟨g, o + k, none⟩ = some (.int .i64 (xs.getD k 0)) := HV.out k (by rw [hx.out]; exact hlt)
      have c2 : w.cell? ⟨q, p + k, none⟩ = some (.int .i64 (ys.getD k 0)) := HU.out k (by rw [hy.out]; exact hlt)
      have hk0 : (0 : Int) ≤ (k : Int) := by omega
      have hkN : (k : Int) < (N : Int) := by omega
      by_cases he : xs.getD k 0 = ys.getD k 0
      · have hE2 : Hid (∀ j, j < k + 1 → xs.getD j 0 = ys.getD j 0) := fun j hj => by
          rcases (show j < k ∨ j = k by omega) with h | h
          · exact hE.out j h
          · rw [h]; exact he
        rw [he] at c1
        generalize ys.getD k 0 = y at *
        have t1 : (y != y) = false := by simp
        clear he hE
        go_wp2_with fail
        go_quiet (fail)
        go_wp2_with fail
        go_roundw
        case rel => exact ⟨k + 1, _, by omega, by go_num, hE2, by first | rfl | (rw [World.drewN_drewN])⟩
        case measure => simp [intOf]; omega
      · have hF : Hid (false = sameB xs ys) := by
          refine Eq.symm (?_ : sameB xs ys = false)
          unfold sameB
          simp
          rintro rfl
          exact he rfl
        generalize xs.getD k 0 = x at *
        generalize ys.getD k 0 = y at *
        have t1 : (x != y) = true := by simpa using he
        clear hE he
        go_wp2_with fail
        go_quiet (fail)
        go_wp2_with fail
        go_ret
        exact ⟨ret_bool hF.out, by (repeat (first | with_reducible rfl | with_reducible exact Below.refl _ _ | with_reducible exact gro_refl _ | with_reducible refine kc_drew ?_ | with_reducible refine kc_drewN _ ?_ | with_reducible refine kf_drew ?_ | with_reducible refine kf_drewN _ ?_ | ((with_reducible refine kc_new ?_ ?_); (focus (first | with_reducible rfl | (simp only [World.size_alloc, World.size_setCell, World.size_drew, size_drewN]; done))); (focus (first | rfl | (simp; done)))) | ((with_reducible refine kc_set0 ?_ ?_); (focus (first | rfl | (simp; done)))) | with_reducible refine ct_drew ?_ | with_reducible refine ct_drewN _ ?_ | ((with_reducible refine ct_new ?_ ?_); (focus (first | with_reducible rfl | (simp only [World.size_alloc, World.size_setCell, World.size_drew, size_drewN]; done))); (focus (first | rfl | (simp; done)))) | with_reducible refine ct_set _ _ ?_ | with_reducible refine ct_alloc _ ?_ | ((with_reducible refine kc_set ?_ ?_); (focus (first | (intro hx; injection hx; omega) | (simp; done)))) | with_reducible refine kc_alloc _ ?_ | ((with_reducible refine kf_new ?_ _); (focus (first | with_reducible rfl | (simp only [World.size_alloc, World.size_setCell, World.size_drew, size_drewN]; done)))) | with_reducible refine kf_set _ _ ?_ | ((with_reducible refine kf_alloc _ ?_ ?_); (focus (first | (simp only [World.size_alloc, World.size_setCell, World.size_drew, size_drewN]; omega) | (dsimp only; omega)))) | with_reducible refine bl_alloc ?_ _ | with_reducible refine bl_drew ?_ | with_reducible refine bl_drewN ?_ _ | ((with_reducible refine bl_set ?_ ?_ _); (focus (dsimp only; omega))) | with_reducible refine gro_alloc ?_ _ | with_reducible refine gro_drew ?_ | with_reducible refine gro_drewN ?_ _ | ((with_reducible refine gro_set ?_ ?_ _); (focus (first | omega | (dsimp only; omega))))))⟩
    · obtain rfl : k = N := by omega
      have hT : Hid (true = sameB xs ys) := by
        refine Eq.symm (?_ : sameB xs ys = true)
        unfold sameB
        simp
        exact ext_getD (by rw [hx.out, hy.out]) (by rw [hx.out]; exact hE.out)
      clear hE
      go_wp2_with fail
      go_ret
      exact ⟨ret_bool hT.out, by (repeat (first | with_reducible rfl | with_reducible exact Below.refl _ _ | with_reducible exact gro_refl _ | with_reducible refine kc_drew ?_ | with_reducible refine kc_drewN _ ?_ | with_reducible refine kf_drew ?_ | with_reducible refine kf_drewN _ ?_ | ((with_reducible refine kc_new ?_ ?_); (focus (first | with_reducible rfl | (simp only [World.size_alloc, World.size_setCell, World.size_drew, size_drewN]; done))); (focus (first | rfl | (simp; done)))) | ((with_reducible refine kc_set0 ?_ ?_); (focus (first | rfl | (simp; done)))) | with_reducible refine ct_drew ?_ | with_reducible refine ct_drewN _ ?_ | ((with_reducible refine ct_new ?_ ?_); (focus (first | with_reducible rfl | (simp only [World.size_alloc, World.size_setCell, World.size_drew, size_drewN]; done))); (focus (first | rfl | (simp; done)))) | with_reducible refine ct_set _ _ ?_ | with_reducible refine ct_alloc _ ?_ | ((with_reducible refine kc_set ?_ ?_); (focus (first | (intro hx; injection hx; omega) | (simp; done)))) | with_reducible refine kc_alloc _ ?_ | ((with_reducible refine kf_new ?_ _); (focus (first | with_reducible rfl | (simp only [World.size_alloc, World.size_setCell, World.size_drew, size_drewN]; done)))) | with_reducible refine kf_set _ _ ?_ | ((with_reducible refine kf_alloc _ ?_ ?_); (focus (first | (simp only [World.size_alloc, World.size_setCell, World.size_drew, size_drewN]; omega) | (dsimp only; omega)))) | with_reducible refine bl_alloc ?_ _ | with_reducible refine bl_drew ?_ | with_reducible refine bl_drewN ?_ _ | ((with_reducible refine bl_set ?_ ?_ _); (focus (dsimp only; omega))) | with_reducible refine gro_alloc ?_ _ | with_reducible refine gro_drew ?_ | with_reducible refine gro_drewN ?_ _ | ((with_reducible refine gro_set ?_ ?_ _); (focus (first | omega | (dsimp only; omega))))))⟩

set_option maxHeartbeats 1000000 in
theorem same_any (xs ys : List Int) (v u : Value) (w : World) (hv : Rd w v xs) (hu : Rd w u ys) (hn : xs.length ≤ 4611686018427387904) (hm : ys.length ≤ 4611686018427387904) :
    Calls Try.prog 60 #[v, u] w fun e w' => e = .returned (.bool (sameB xs ys)) ∧ Gro w w' := by
  obtain ⟨a, cap, rfl, hcap, hv⟩ := hv
  obtain ⟨b, cap', rfl, hcap', hu⟩ := hu
  by_cases hl : xs.length = ys.length
  · have t1 : ((xs.length : Int) == (ys.length : Int)) = true := by simp [hl]
    rcases hv with rfl | ⟨g, o, rfl, hv⟩
    · have : ys = [] := List.eq_nil_of_length_eq_zero hl.symm
      subst this
      go_enter Try.func60, Try.ntmps60
      go_wp2_with fail
      refine wp_loop_rounds 2 ?_
      rw [rounds_succ]
      go_wp2_with fail
      go_ret
      exact ⟨rfl, gro_refl _⟩
    · rcases hu with rfl | ⟨q, p, rfl, hu⟩
      · have : xs = [] := List.eq_nil_of_length_eq_zero hl
        subst this
        go_enter Try.func60, Try.ntmps60
        go_wp2_with fail
        refine wp_loop_rounds 2 ?_
        rw [rounds_succ]
        go_wp2_with fail
        go_ret
        exact ⟨rfl, gro_refl _⟩
      · have HV := Lib.hid hv
        have HU := Lib.hid hu
        have hcx : ys.length ≤ cap' := hcap'
        rw [← hl] at hcx ⊢
        exact same_eq xs.length g o cap q p cap' xs ys w (Lib.hid rfl) (Lib.hid hl.symm) hn hcap hcx HV HU
  · have t1 : ((xs.length : Int) != (ys.length : Int)) = true := by simp; omega
    have hs : sameB xs ys = false := by
      unfold sameB
      simp
      rintro rfl
      exact hl rfl
    rw [hs]
    go_enter Try.func60, Try.ntmps60
    go_wp2_with fail
    go_ret
    exact ⟨rfl, gro_refl _⟩
end Go.Proofs.Ytmigddempeecoaa
