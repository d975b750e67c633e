/- The reference's Fits. -/
import Derived.Test.YtoenimkgagndnaaCFirst
namespace Go.Proofs.Ytoenimkgagndnaa
set_option linter.unusedVariables false
set_option linter.unusedSimpArgs false
open Go.RowKit Go.Lib

/-- A stage of a train fits limits, and follows the one before it. -/
def FitI (xs ys : List Int) (a b c d : Int) (i : Nat) : Prop :=
  (a ≤ xs.getD i 0 ∧ xs.getD i 0 ≤ b) ∧ (c ≤ ys.getD i 0 ∧ ys.getD i 0 ≤ d) ∧ (0 < i → xs.getD i 0 ≤ xs.getD (i - 1) 0 ∧ ys.getD (i - 1) 0 ≤ ys.getD i 0)
def FitP (xs ys : List Int) (a b c d k : Int) : Prop := okT k xs ys ∧ ∀ i, i < xs.length → FitI xs ys a b c d i

set_option maxHeartbeats 4000000 in
set_option maxRecDepth 100000 in
theorem refFits_any (p q : Option Addr) (n u m v : Nat) (a b c d k : Int) (xs ys : List Int) (w : World) (hx : Rd w (.slice p n u) xs) (hy : Rd w (.slice q m v) ys) (hn : n ≤ 1000) (hm : m ≤ 1000) (V : Bool) (hV : V = true ↔ FitP xs ys a b c d k) :
    Calls Try.prog 39 #[.agg #[.slice p n u, .slice q m v], .agg #[.int .i64 a, .int .i64 b, .int .i64 c, .int .i64 d, .int .i64 k]] w fun e w' => e = .returned (.bool V) ∧ Below w.heap.size w w' := by
  obtain ⟨xl, hxc⟩ := rdl_len hx
  obtain ⟨yl, hyc⟩ := rdl_len hy
  have HX : Hid (∀ W, Below w.heap.size w W → Rd W (.slice p n u) xs) := fun W hW => hx.below hW
  have HY : Hid (∀ W, Below w.heap.size w W → Rd W (.slice q m v) ys) := fun W hW => hy.below hW
  have HT := fun W g1 g2 => Lib.hid (rtrain_any p q n u m v k xs ys W g1 g2 (by omega) (by omega))
  have hnu : (n : Int) ≤ (u : Int) := by omega
  by_cases ht : okT k xs ys
  · have hmn : m = n := by have := ht.2.1; omega
    subst hmn
    have hmv : (m : Int) ≤ (v : Int) := by omega
    have HV : Hid (V = true ↔ ∀ i, i < m → FitI xs ys a b c d i) := by
      rw [hV]
      unfold FitP
      rw [xl]
      exact ⟨fun h => h.2, fun h => ⟨ht, h⟩⟩
    have hok : okB k xs ys = true := decide_eq_true ht
    simp only [hok] at HT
    have IX : Hid (∀ i, i < m → inT (xs.getD i 0)) := by rw [← xl]; exact all_getD.1 ht.2.2.1
    have IY : Hid (∀ i, i < m → inT (ys.getD i 0)) := by rw [← yl]; exact all_getD.1 ht.2.2.2
    clear hx hy xl yl hV ht hok
    go_enter Try.func39, Try.ntmps39
    go_wp2_with (go_at_call 35; ((with_reducible refine (HT _ (HX.out _ (by (with_reducible repeat (first | exact Below.refl _ _ | refine bl_alloc ?_ _ | refine bl_drew ?_ | refine bl_drewN ?_ _ | (refine bl_set ?_ ?_ _; (focus dsimp only; omega)))))) (HY.out _ (by (with_reducible repeat (first | exact Below.refl _ _ | refine bl_alloc ?_ _ | refine bl_drew ?_ | refine bl_drewN ?_ _ | (refine bl_set ?_ ?_ _; (focus dsimp only; omega))))))).out.mono ?_); rintro e w2 ⟨rfl, hk2⟩; have hb2 := hk2.below; have ⟨r0, r1, r2, r3, r4, r5, r6⟩ : w2.cell? ⟨w.heap.size, 0, none⟩ = some (.slice p m u) ∧ w2.cell? ⟨w.heap.size, 1, none⟩ = some (.slice q m v) ∧ w2.cell? ⟨w.heap.size + 1, 0, none⟩ = some (.int .i64 a) ∧ w2.cell? ⟨w.heap.size + 1, 1, none⟩ = some (.int .i64 b) ∧ w2.cell? ⟨w.heap.size + 1, 2, none⟩ = some (.int .i64 c) ∧ w2.cell? ⟨w.heap.size + 1, 3, none⟩ = some (.int .i64 d) ∧ w2.cell? ⟨w.heap.size + 1, 4, none⟩ = some (.int .i64 k) := (by and_intros <;> (with_reducible repeat (first | refine kc_drew ?_ | refine kc_drewN _ ?_ | refine kc_below hb2 ?_ | (refine kc_new ?_ ?_; (focus first | rfl | (simp only [World.size_alloc, World.size_setCell, World.size_drew, size_drewN]; done)); (focus first | rfl | (simp; done))) | (refine kc_set0 ?_ ?_; (focus first | rfl | (simp; done))) | exact ct_of (by assumption) | refine ct_drew ?_ | refine ct_drewN _ ?_ | refine ct_below hb2 ?_ | (refine ct_new ?_ ?_; (focus first | rfl | (simp only [World.size_alloc, World.size_setCell, World.size_drew, size_drewN]; done)); (focus first | rfl | (simp; done))) | refine ct_set _ _ ?_ | refine ct_alloc _ ?_ | (refine kc_set ?_ ?_; (focus first | (intro hx; injection hx; omega) | (simp; done))) | refine kc_alloc _ ?_))); have hB : Below w.heap.size w w2 := (by (with_reducible repeat (first | exact Below.refl _ _ | refine bl_alloc ?_ _ | refine bl_drew ?_ | refine bl_drewN ?_ _ | (refine bl_set ?_ ?_ _; (focus dsimp only; omega)) | refine bl_call ?_ hb2)))))
    have X2 := Lib.hid (HX.out w2 hB)
    have Y2 := Lib.hid (HY.out w2 hB)
    go_loopg [5] m (fun gh r wr => ∃ i j : Nat, i ≤ m ∧ m - i ≤ gh ∧ r = .int .i64 i ∧ Hid (∀ l, l < i → FitI xs ys a b c d l) ∧ wr = w2.drewN j)
    case atStart => exact ⟨0, 0, Nat.zero_le _, by omega, rfl, fun l hl => absurd hl (by omega), rfl⟩
    case round =>
      obtain ⟨i, j, him, hgh, rfl, hE, rfl⟩ := hrel
      by_cases h : i < m
      · have h' : (i : Int) < (m : Int) := by omega
        have hi0 : (0 : Int) ≤ (i : Int) := by omega
        obtain ⟨g, o, rfl, c1⟩ := rdl_at X2.out h
        obtain ⟨g2, o2, rfl, c2⟩ := rdl_at Y2.out h
        have hxi := IX.out i h
        have hyi := IY.out i h
        unfold inT at hxi hyi
        have HF : Hid (¬ FitI xs ys a b c d i → V = false) := fun hf => by
          cases V
          · rfl
          · exact absurd (HV.out.1 rfl i h) hf
        have HS : Hid (FitI xs ys a b c d i → ∀ l, l < i + 1 → FitI xs ys a b c d l) := fun hf l hl => by
          rcases (show l < i ∨ l = i by omega) with h | h
          · exact hE.out l h
          · rw [h]; exact hf
        rcases Nat.eq_zero_or_pos i with rfl | hp
        · unfold FitI at HF HS
          generalize hx0 : xs.getD 0 0 = x at *
          generalize hy0 : ys.getD 0 0 = y at *
          clear hx0 hy0
          rw [Nat.add_zero] at c1 c2
          by_cases k0 : x < a
          · obtain rfl : V = false := HF.out (fun hf => by have := hf; omega)
            clear HF HS HV hE
            go_wp2_with fail
            go_quiet (fail)
            go_wp2_with fail
            go_ret
            exact ⟨rfl, by (with_reducible repeat (first | exact hB | exact Below.refl _ _ | refine bl_alloc ?_ _ | refine bl_drew ?_ | refine bl_drewN ?_ _ | (refine bl_set ?_ ?_ _; (focus dsimp only; omega))))⟩
          · have k0' : a ≤ x := by omega
            clear k0
            by_cases k1 : b < x
            · obtain rfl : V = false := HF.out (fun hf => by have := hf; omega)
              clear HF HS HV hE
              go_wp2_with fail
              go_quiet (fail)
              go_wp2_with fail
              go_ret
              exact ⟨rfl, by (with_reducible repeat (first | exact hB | exact Below.refl _ _ | refine bl_alloc ?_ _ | refine bl_drew ?_ | refine bl_drewN ?_ _ | (refine bl_set ?_ ?_ _; (focus dsimp only; omega))))⟩
            · have k1' : x ≤ b := by omega
              clear k1
              by_cases k2 : y < c
              · obtain rfl : V = false := HF.out (fun hf => by have := hf; omega)
                clear HF HS HV hE
                go_wp2_with fail
                go_quiet (fail)
                go_wp2_with fail
                go_ret
                exact ⟨rfl, by (with_reducible repeat (first | exact hB | exact Below.refl _ _ | refine bl_alloc ?_ _ | refine bl_drew ?_ | refine bl_drewN ?_ _ | (refine bl_set ?_ ?_ _; (focus dsimp only; omega))))⟩
              · have k2' : c ≤ y := by omega
                clear k2
                by_cases k3 : d < y
                · obtain rfl : V = false := HF.out (fun hf => by have := hf; omega)
                  clear HF HS HV hE
                  go_wp2_with fail
                  go_quiet (fail)
                  go_wp2_with fail
                  go_ret
                  exact ⟨rfl, by (with_reducible repeat (first | exact hB | exact Below.refl _ _ | refine bl_alloc ?_ _ | refine bl_drew ?_ | refine bl_drewN ?_ _ | (refine bl_set ?_ ?_ _; (focus dsimp only; omega))))⟩
                · have k3' : y ≤ d := by omega
                  clear k3
                  have HN := Lib.hid (HS.out (by first | exact ⟨⟨by omega, by omega⟩, ⟨by omega, by omega⟩, fun _ => ⟨by omega, by omega⟩⟩ | exact ⟨⟨by omega, by omega⟩, ⟨by omega, by omega⟩, fun h => absurd h (by omega)⟩))
                  clear HF HS hE
                  go_wp2_with fail
                  go_quiet (fail)
                  go_wp2_with fail
                  go_roundg (m - (0 + 1))
                  case measure => omega
                  case rel => exact ⟨0 + 1, _, by omega, by omega, by go_num, HN.out, by first | rfl | (rw [World.drewN_drewN]; done) | (rw [World.drewN_drewN, World.drewN_drewN])⟩
        · obtain ⟨l, rfl⟩ : ∃ l, i = l + 1 := ⟨i - 1, by omega⟩
          obtain ⟨g', o', he, d1⟩ := rdl_at X2.out (show l < m by omega)
          obtain ⟨g2', o2', he2, d2⟩ := rdl_at Y2.out (show l < m by omega)
          simp only [Option.some.injEq, Addr.mk.injEq, and_true] at he he2
          obtain ⟨rfl, rfl⟩ := he
          obtain ⟨rfl, rfl⟩ := he2
          unfold FitI at HF HS
          simp only [Nat.add_sub_cancel] at HF HS
          generalize hx0 : xs.getD (l + 1) 0 = x at *
          generalize hy0 : ys.getD (l + 1) 0 = y at *
          generalize hx1 : xs.getD l 0 = x' at *
          generalize hy1 : ys.getD l 0 = y' at *
          clear hx0 hy0 hx1 hy1
          by_cases k0 : x < a
          · obtain rfl : V = false := HF.out (fun hf => by have := hf; omega)
            clear HF HS HV hE
            go_wp2_with fail
            go_quiet (fail)
            go_wp2_with fail
            go_ret
            exact ⟨rfl, by (with_reducible repeat (first | exact hB | exact Below.refl _ _ | refine bl_alloc ?_ _ | refine bl_drew ?_ | refine bl_drewN ?_ _ | (refine bl_set ?_ ?_ _; (focus dsimp only; omega))))⟩
          · have k0' : a ≤ x := by omega
            clear k0
            by_cases k1 : b < x
            · obtain rfl : V = false := HF.out (fun hf => by have := hf; omega)
              clear HF HS HV hE
              go_wp2_with fail
              go_quiet (fail)
              go_wp2_with fail
              go_ret
              exact ⟨rfl, by (with_reducible repeat (first | exact hB | exact Below.refl _ _ | refine bl_alloc ?_ _ | refine bl_drew ?_ | refine bl_drewN ?_ _ | (refine bl_set ?_ ?_ _; (focus dsimp only; omega))))⟩
            · have k1' : x ≤ b := by omega
              clear k1
              by_cases k2 : y < c
              · obtain rfl : V = false := HF.out (fun hf => by have := hf; omega)
                clear HF HS HV hE
                go_wp2_with fail
                go_quiet (fail)
                go_wp2_with fail
                go_ret
                exact ⟨rfl, by (with_reducible repeat (first | exact hB | exact Below.refl _ _ | refine bl_alloc ?_ _ | refine bl_drew ?_ | refine bl_drewN ?_ _ | (refine bl_set ?_ ?_ _; (focus dsimp only; omega))))⟩
              · have k2' : c ≤ y := by omega
                clear k2
                by_cases k3 : d < y
                · obtain rfl : V = false := HF.out (fun hf => by have := hf; omega)
                  clear HF HS HV hE
                  go_wp2_with fail
                  go_quiet (fail)
                  go_wp2_with fail
                  go_ret
                  exact ⟨rfl, by (with_reducible repeat (first | exact hB | exact Below.refl _ _ | refine bl_alloc ?_ _ | refine bl_drew ?_ | refine bl_drewN ?_ _ | (refine bl_set ?_ ?_ _; (focus dsimp only; omega))))⟩
                · have k3' : y ≤ d := by omega
                  clear k3
                  by_cases k4 : x' < x
                  · obtain rfl : V = false := HF.out (fun hf => by have := hf; omega)
                    clear HF HS HV hE
                    go_wp2_with fail
                    go_quiet (fail)
                    go_wp2_with fail
                    go_ret
                    exact ⟨rfl, by (with_reducible repeat (first | exact hB | exact Below.refl _ _ | refine bl_alloc ?_ _ | refine bl_drew ?_ | refine bl_drewN ?_ _ | (refine bl_set ?_ ?_ _; (focus dsimp only; omega))))⟩
                  · have k4' : x ≤ x' := by omega
                    clear k4
                    by_cases k5 : y < y'
                    · obtain rfl : V = false := HF.out (fun hf => by have := hf; omega)
                      clear HF HS HV hE
                      go_wp2_with fail
                      go_quiet (fail)
                      go_wp2_with fail
                      go_ret
                      exact ⟨rfl, by (with_reducible repeat (first | exact hB | exact Below.refl _ _ | refine bl_alloc ?_ _ | refine bl_drew ?_ | refine bl_drewN ?_ _ | (refine bl_set ?_ ?_ _; (focus dsimp only; omega))))⟩
                    · have k5' : y' ≤ y := by omega
                      clear k5
                      have HN := Lib.hid (HS.out (by first | exact ⟨⟨by omega, by omega⟩, ⟨by omega, by omega⟩, fun _ => ⟨by omega, by omega⟩⟩ | exact ⟨⟨by omega, by omega⟩, ⟨by omega, by omega⟩, fun h => absurd h (by omega)⟩))
                      clear HF HS hE
                      go_wp2_with fail
                      go_quiet (fail)
                      go_wp2_with fail
                      go_roundg (m - (l + 1 + 1))
                      case measure => omega
                      case rel => exact ⟨l + 1 + 1, _, by omega, by omega, by go_num, HN.out, by first | rfl | (rw [World.drewN_drewN]; done) | (rw [World.drewN_drewN, World.drewN_drewN])⟩
      · obtain rfl : i = m := by omega
        have h' : ¬ (i : Int) < (i : Int) := by omega
        obtain rfl : V = true := HV.out.2 hE.out
        clear hE
        go_wp2_with fail
        go_ret
        exact ⟨rfl, by (with_reducible repeat (first | exact hB | exact Below.refl _ _ | refine bl_alloc ?_ _ | refine bl_drew ?_ | refine bl_drewN ?_ _ | (refine bl_set ?_ ?_ _; (focus dsimp only; omega))))⟩
  · have hok : okB k xs ys = false := decide_eq_false ht
    simp only [hok] at HT
    obtain rfl : V = false := by
      cases V
      · rfl
      · exact absurd (hV.1 rfl).1 ht
    clear hx hy xl yl hV ht hok
    go_enter Try.func39, Try.ntmps39
    go_wp2_with (go_at_call 35; ((with_reducible refine (HT _ (HX.out _ (by (with_reducible repeat (first | exact Below.refl _ _ | refine bl_alloc ?_ _ | refine bl_drew ?_ | refine bl_drewN ?_ _ | (refine bl_set ?_ ?_ _; (focus dsimp only; omega)))))) (HY.out _ (by (with_reducible repeat (first | exact Below.refl _ _ | refine bl_alloc ?_ _ | refine bl_drew ?_ | refine bl_drewN ?_ _ | (refine bl_set ?_ ?_ _; (focus dsimp only; omega))))))).out.mono ?_); rintro e w2 ⟨rfl, hk2⟩; have hb2 := hk2.below; have hB : Below w.heap.size w w2 := (by (with_reducible repeat (first | exact Below.refl _ _ | refine bl_alloc ?_ _ | refine bl_drew ?_ | refine bl_drewN ?_ _ | (refine bl_set ?_ ?_ _; (focus dsimp only; omega)) | refine bl_call ?_ hb2)))))
    go_ret
    exact ⟨rfl, hB⟩
end Go.Proofs.Ytoenimkgagndnaa
