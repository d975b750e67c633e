/- Walks of package gear: Fits. -/
import Derived.Test.YtoenimkgagndnaaCRFits
import Derived.Test.YtoenimkgagndnaaCRLim
import Derived.Test.YtoenimkgagndnaaGe
namespace Go.Proofs.Ytoenimkgagndnaa
set_option linter.unusedVariables false
set_option linter.unusedSimpArgs false
open Go.RowKit Go.Lib

theorem vl_pos {a b c d k : Int} (h : vlF a b c d k = true) : (1 ≤ a ∧ b ≤ 200) ∧ (1 ≤ c ∧ d ≤ 200) ∧ k ≤ 3 := by
  rw [vlF_iff] at h
  omega

set_option maxHeartbeats 4000000 in
set_option maxRecDepth 100000 in
theorem gearFits_loop (g o g2 o2 n u v : Nat) (a b c d k : Int) (xs ys : List Int) (w : World) (hxl : Hid (xs.length = n)) (hyl : Hid (ys.length = n)) (n1 : 1 ≤ n) (nk : (n : Int) ≤ k) (hu : n ≤ u) (hv : n ≤ v)
    (HX : Hid (∀ i, i < n → w.cell? ⟨g, o + i, none⟩ = some (.int .i64 (xs.getD i 0)))) (HY : Hid (∀ i, i < n → w.cell? ⟨g2, o2 + i, none⟩ = some (.int .i64 (ys.getD i 0)))) (V : Bool) (HV : Hid (V = true ↔ ∀ i, i < n → FitI xs ys a b c d i)) (hvl : vlF a b c d k = true) :
    Calls Try.prog 34 #[.agg #[.slice (some ⟨g, o, none⟩) n u, .slice (some ⟨g2, o2, none⟩) n v], .agg #[.int .i64 a, .int .i64 b, .int .i64 c, .int .i64 d, .int .i64 k]] w fun e w' => e = .returned (.tuple #[.bool V, .int .i64 0]) ∧ Below w.heap.size w w' := by
  have HVL := fun W => Lib.hid (validLimits_any a b c d k W)
  simp only [hvl] at HVL
  obtain ⟨⟨a1, b2⟩, ⟨c1, d2⟩, k3⟩ := vl_pos hvl
  have HI1 := fun W => Lib.hid (inRange_any (n : Int) 1 k W)
  rw [show decide ((1 : Int) ≤ n ∧ (n : Int) ≤ k) = true by simp; omega] at HI1
  have hgw := World.block_lt_of_cell? _ _ (HX.out 0 (by omega))
  have hqw := World.block_lt_of_cell? _ _ (HY.out 0 (by omega))
  simp only at hgw hqw
  have t0 : ((n : Int) != (n : Int)) = false := by simp
  clear hvl
  go_enter Try.func34, Try.ntmps34
  go_wp2_with (first
    | (go_at_call 73; ((with_reducible refine (HVL _).out.mono ?_); rintro y w2 ⟨rfl, hk2⟩; have hb2 := hk2.below; have ⟨r0, r1, r2, r3, r4, r5, r6⟩ : w2.cell? ⟨w.heap.size, 0, none⟩ = some (.slice (some ⟨g, o, none⟩) n u) ∧ w2.cell? ⟨w.heap.size, 1, none⟩ = some (.slice (some ⟨g2, o2, none⟩) n v) ∧ w2.cell? ⟨w.heap.size + 1, 0, none⟩ = some (.int .i64 a) ∧ w2.cell? ⟨w.heap.size + 1, 1, none⟩ = some (.int .i64 b) ∧ w2.cell? ⟨w.heap.size + 1, 2, none⟩ = some (.int .i64 c) ∧ w2.cell? ⟨w.heap.size + 1, 3, none⟩ = some (.int .i64 d) ∧ w2.cell? ⟨w.heap.size + 1, 4, none⟩ = some (.int .i64 k) := (by and_intros <;> (with_reducible repeat (first | refine kc_drew ?_ | refine kc_drewN _ ?_ | refine kc_below hb2 ?_ | (refine kc_new ?_ ?_; (focus first | rfl | (simp only [World.size_alloc, World.size_setCell, World.size_drew, size_drewN]; done)); (focus first | rfl | (simp; done))) | (refine kc_set0 ?_ ?_; (focus first | rfl | (simp; done))) | exact ct_of (by assumption) | refine ct_drew ?_ | refine ct_drewN _ ?_ | refine ct_below hb2 ?_ | (refine ct_new ?_ ?_; (focus first | rfl | (simp only [World.size_alloc, World.size_setCell, World.size_drew, size_drewN]; done)); (focus first | rfl | (simp; done))) | refine ct_set _ _ ?_ | refine ct_alloc _ ?_ | (refine kc_set ?_ ?_; (focus first | (intro hx; injection hx; omega) | (simp; done))) | refine kc_alloc _ ?_))); have hB : Below w.heap.size w w2 := (by (with_reducible repeat (first | exact Below.refl _ _ | refine bl_alloc ?_ _ | refine bl_drew ?_ | refine bl_drewN ?_ _ | (refine bl_set ?_ ?_ _; (focus dsimp only; omega)) | refine bl_call ?_ hb2)))))
    | (go_at_call 72; ((with_reducible refine (HI1 _).out.mono ?_); rintro y w' ⟨rfl, rfl⟩)))
  have X2 : Hid (∀ i, i < n → w2.cell? ⟨g, o + i, none⟩ = some (.int .i64 (xs.getD i 0))) := fun i hi => kc_low hB hgw (HX.out i hi)
  have Y2 : Hid (∀ i, i < n → w2.cell? ⟨g2, o2 + i, none⟩ = some (.int .i64 (ys.getD i 0))) := fun i hi => kc_low hB hqw (HY.out i hi)
  clear HX HY hb2 hk2
  go_loop [31] (fun r => ∃ i : Nat, i ≤ n ∧ r = .int .i64 i ∧ Hid (∀ l, l < i → FitI xs ys a b c d l)) (fun r => n - (intOf r).toNat)
  case atStart => exact ⟨0, Nat.zero_le _, rfl, fun l hl => absurd hl (by omega)⟩
  case round =>
    obtain ⟨i, him, rfl, hE⟩ := hrel
    by_cases h : i < n
    · have h' : (i : Int) < (n : Int) := by omega
      have hi0 : (0 : Int) ≤ (i : Int) := by omega
      have e1 := X2.out i h
      have e2 := Y2.out i h
      have HF : Hid (¬ FitI xs ys a b c d i → V = false) := fun hf => by
        cases V
        · rfl
        · exact absurd (HV.out.1 rfl i h) hf
      have HS : Hid (FitI xs ys a b c d i → ∀ l, l < i + 1 → FitI xs ys a b c d l) := fun hf l hl => by
        rcases (show l < i ∨ l = i by omega) with h | h
        · exact hE.out l h
        · rw [h]; exact hf
      have HX2 := fun W => Lib.hid (inRange_any (xs.getD i 0) a b W)
      have HY2 := fun W => Lib.hid (inRange_any (ys.getD i 0) c d W)
      rcases Nat.eq_zero_or_pos i with rfl | hp
      · unfold FitI at HF HS
        generalize hx0 : xs.getD 0 0 = x at *
        generalize hy0 : ys.getD 0 0 = y at *
        clear hx0 hy0
        rw [Nat.add_zero] at e1 e2
        by_cases k0 : ¬ (a ≤ x ∧ x ≤ b)
        · rw [decide_eq_false k0] at HX2
          obtain rfl : V = false := HF.out (fun hf => by have := hf; omega)
          clear HF HS HV hE
          go_wp2_with (go_at_call 72; ((with_reducible refine (HX2 _).out.mono ?_); rintro y w' ⟨rfl, rfl⟩))
          go_ret2
          exact ⟨rfl, hB⟩
        · have k0' : a ≤ x ∧ x ≤ b := by omega
          clear k0
          rw [decide_eq_true k0'] at HX2
          by_cases k1 : ¬ (c ≤ y ∧ y ≤ d)
          · rw [decide_eq_false k1] at HY2
            obtain rfl : V = false := HF.out (fun hf => by have := hf; omega)
            clear HF HS HV hE
            go_wp2_with (first | (go_at_call 72; ((with_reducible refine (HX2 _).out.mono ?_); rintro y w' ⟨rfl, rfl⟩)) | (go_at_call 72; ((with_reducible refine (HY2 _).out.mono ?_); rintro y w' ⟨rfl, rfl⟩)))
            go_ret2
            exact ⟨rfl, hB⟩
          · have k1' : c ≤ y ∧ y ≤ d := by omega
            clear k1
            rw [decide_eq_true k1'] at HY2
            have HN := Lib.hid (HS.out (by first | exact ⟨⟨by omega, by omega⟩, ⟨by omega, by omega⟩, fun _ => ⟨by omega, by omega⟩⟩ | exact ⟨⟨by omega, by omega⟩, ⟨by omega, by omega⟩, fun h => absurd h (by omega)⟩))
            clear HF HS hE
            go_wp2_with (first | (go_at_call 72; ((with_reducible refine (HX2 _).out.mono ?_); rintro y w' ⟨rfl, rfl⟩)) | (go_at_call 72; ((with_reducible refine (HY2 _).out.mono ?_); rintro y w' ⟨rfl, rfl⟩)))
            refine ⟨⟨0 + 1, by omega, by go_num, HN.out⟩, by simp [intOf]; omega⟩
      · obtain ⟨l, rfl⟩ : ∃ l, i = l + 1 := ⟨i - 1, by omega⟩
        have d1 := X2.out l (by omega)
        have d2 := Y2.out l (by omega)
        unfold FitI at HF HS
        simp only [Nat.add_sub_cancel] at HF HS
        generalize hx0 : xs.getD (l + 1) 0 = x at *
        generalize hy0 : ys.getD (l + 1) 0 = y at *
        generalize hx1 : xs.getD l 0 = x' at *
        generalize hy1 : ys.getD l 0 = y' at *
        clear hx0 hy0 hx1 hy1
        by_cases k0 : ¬ (a ≤ x ∧ x ≤ b)
        · rw [decide_eq_false k0] at HX2
          obtain rfl : V = false := HF.out (fun hf => by have := hf; omega)
          clear HF HS HV hE
          go_wp2_with (go_at_call 72; ((with_reducible refine (HX2 _).out.mono ?_); rintro y w' ⟨rfl, rfl⟩))
          go_ret2
          exact ⟨rfl, hB⟩
        · have k0' : a ≤ x ∧ x ≤ b := by omega
          clear k0
          rw [decide_eq_true k0'] at HX2
          by_cases k1 : ¬ (c ≤ y ∧ y ≤ d)
          · rw [decide_eq_false k1] at HY2
            obtain rfl : V = false := HF.out (fun hf => by have := hf; omega)
            clear HF HS HV hE
            go_wp2_with (first | (go_at_call 72; ((with_reducible refine (HX2 _).out.mono ?_); rintro y w' ⟨rfl, rfl⟩)) | (go_at_call 72; ((with_reducible refine (HY2 _).out.mono ?_); rintro y w' ⟨rfl, rfl⟩)))
            go_ret2
            exact ⟨rfl, hB⟩
          · have k1' : c ≤ y ∧ y ≤ d := by omega
            clear k1
            rw [decide_eq_true k1'] at HY2
            by_cases k2 : x' < x
            · obtain rfl : V = false := HF.out (fun hf => by have := hf; omega)
              clear HF HS HV hE
              go_wp2_with (first | (go_at_call 72; ((with_reducible refine (HX2 _).out.mono ?_); rintro y w' ⟨rfl, rfl⟩)) | (go_at_call 72; ((with_reducible refine (HY2 _).out.mono ?_); rintro y w' ⟨rfl, rfl⟩)))
              go_ret2
              exact ⟨rfl, hB⟩
            · have k2' : x ≤ x' := by omega
              clear k2
              by_cases k3 : y < y'
              · obtain rfl : V = false := HF.out (fun hf => by have := hf; omega)
                clear HF HS HV hE
                go_wp2_with (first | (go_at_call 72; ((with_reducible refine (HX2 _).out.mono ?_); rintro y w' ⟨rfl, rfl⟩)) | (go_at_call 72; ((with_reducible refine (HY2 _).out.mono ?_); rintro y w' ⟨rfl, rfl⟩)))
                go_ret2
                exact ⟨rfl, hB⟩
              · have k3' : y' ≤ y := by omega
                clear k3
                have HN := Lib.hid (HS.out (by first | exact ⟨⟨by omega, by omega⟩, ⟨by omega, by omega⟩, fun _ => ⟨by omega, by omega⟩⟩ | exact ⟨⟨by omega, by omega⟩, ⟨by omega, by omega⟩, fun h => absurd h (by omega)⟩))
                clear HF HS hE
                go_wp2_with (first | (go_at_call 72; ((with_reducible refine (HX2 _).out.mono ?_); rintro y w' ⟨rfl, rfl⟩)) | (go_at_call 72; ((with_reducible refine (HY2 _).out.mono ?_); rintro y w' ⟨rfl, rfl⟩)))
                refine ⟨⟨(l + 1) + 1, by omega, by go_num, HN.out⟩, by simp [intOf]; omega⟩
    · obtain rfl : i = n := by omega
      have h' : ¬ (i : Int) < (i : Int) := by omega
      obtain rfl : V = true := HV.out.2 hE.out
      clear hE
      go_wp2_with fail
      go_ret2
      exact ⟨rfl, hB⟩

set_option maxHeartbeats 2000000 in
theorem gearFits_any (p q : Option Addr) (n u m v : Nat) (a b c d k : Int) (xs ys : List Int) (w : World) (hx : Rd w (.slice p n u) xs) (hy : Rd w (.slice q m v) ys) (hn : n ≤ 1000) (hm : m ≤ 1000) (V : Bool) (hV : V = true ↔ FitP xs ys a b c d k) (hvl : vlF a b c d k = true) :
    Calls Try.prog 34 #[.agg #[.slice p n u, .slice q m v], .agg #[.int .i64 a, .int .i64 b, .int .i64 c, .int .i64 d, .int .i64 k]] w fun e w' => e = .returned (.tuple #[.bool V, .int .i64 0]) ∧ Below w.heap.size w w' := by
  obtain ⟨xl, hxc⟩ := rdl_len hx
  obtain ⟨yl, hyc⟩ := rdl_len hy
  have HI1 := fun W => Lib.hid (inRange_any (n : Int) 1 k W)
  have HVL := fun W => Lib.hid (validLimits_any a b c d k W)
  simp only [hvl] at HVL
  by_cases h1 : (1 : Int) ≤ n ∧ (n : Int) ≤ k
  · by_cases h2 : m = n
    · subst h2
      obtain ⟨g, o, rfl, _⟩ := rdl_at hx (show 0 < m by omega)
      obtain ⟨g2, o2, rfl, _⟩ := rdl_at hy (show 0 < m by omega)
      have CX : ∀ i, i < m → w.cell? ⟨g, o + i, none⟩ = some (.int .i64 (xs.getD i 0)) := fun i hi => by
        obtain ⟨g', o', he, h⟩ := rdl_at hx hi
        simp only [Option.some.injEq, Addr.mk.injEq, and_true] at he
        rw [he.1, he.2]
        exact h
      have CY : ∀ i, i < m → w.cell? ⟨g2, o2 + i, none⟩ = some (.int .i64 (ys.getD i 0)) := fun i hi => by
        obtain ⟨g', o', he, h⟩ := rdl_at hy hi
        simp only [Option.some.injEq, Addr.mk.injEq, and_true] at he
        rw [he.1, he.2]
        exact h
      refine gearFits_loop g o g2 o2 m u v a b c d k xs ys w xl yl (by omega) h1.2 hxc hyc CX CY V ?_ hvl
      rw [vlF_iff] at hvl
      show V = true ↔ _
      rw [hV]
      unfold FitP okT
      rw [xl, yl]
      refine ⟨fun h => h.2, fun h => ⟨⟨⟨by omega, h1.2⟩, rfl, all_getD.2 fun i hi => ?_, all_getD.2 fun i hi => ?_⟩, h⟩⟩
      · have := h i (by omega)
        unfold FitI at this
        unfold inT
        omega
      · have := h i (by omega)
        unfold FitI at this
        unfold inT
        omega
    · have t0 : ((m : Int) != (n : Int)) = true := by simp; omega
      obtain rfl : V = false := by
        cases V
        · rfl
        · exact absurd (hV.1 rfl).1.2.1 (by omega)
      rw [decide_eq_true h1] at HI1
      clear hx hy xl yl hV h2 hvl
      go_enter Try.func34, Try.ntmps34
      go_wp2_with (first
        | (go_at_call 73; ((with_reducible refine (HVL _).out.mono ?_); rintro y w2 ⟨rfl, hk2⟩; have hb2 := hk2.below; have ⟨r0, r1, r2⟩ : w2.cell? ⟨w.heap.size, 0, none⟩ = some (.slice p n u) ∧ w2.cell? ⟨w.heap.size, 1, none⟩ = some (.slice q m v) ∧ w2.cell? ⟨w.heap.size + 1, 4, none⟩ = some (.int .i64 k) := (by and_intros <;> (with_reducible repeat (first | refine kc_drew ?_ | refine kc_drewN _ ?_ | refine kc_below hb2 ?_ | (refine kc_new ?_ ?_; (focus first | rfl | (simp only [World.size_alloc, World.size_setCell, World.size_drew, size_drewN]; done)); (focus first | rfl | (simp; done))) | (refine kc_set0 ?_ ?_; (focus first | rfl | (simp; done))) | exact ct_of (by assumption) | refine ct_drew ?_ | refine ct_drewN _ ?_ | refine ct_below hb2 ?_ | (refine ct_new ?_ ?_; (focus first | rfl | (simp only [World.size_alloc, World.size_setCell, World.size_drew, size_drewN]; done)); (focus first | rfl | (simp; done))) | refine ct_set _ _ ?_ | refine ct_alloc _ ?_ | (refine kc_set ?_ ?_; (focus first | (intro hx; injection hx; omega) | (simp; done))) | refine kc_alloc _ ?_))); have hB : Below w.heap.size w w2 := (by (with_reducible repeat (first | exact Below.refl _ _ | refine bl_alloc ?_ _ | refine bl_drew ?_ | refine bl_drewN ?_ _ | (refine bl_set ?_ ?_ _; (focus dsimp only; omega)) | refine bl_call ?_ hb2)))))
        | (go_at_call 72; ((with_reducible refine (HI1 _).out.mono ?_); rintro y w' ⟨rfl, rfl⟩)))
      go_ret2
      exact ⟨rfl, hB⟩
  · obtain rfl : V = false := by
      cases V
      · rfl
      · have := (hV.1 rfl).1.1
        rw [xl] at this
        exact absurd ⟨by omega, this.2⟩ h1
    rw [decide_eq_false h1] at HI1
    clear hx hy xl yl hV h1 hvl
    go_enter Try.func34, Try.ntmps34
    go_wp2_with (first
      | (go_at_call 73; ((with_reducible refine (HVL _).out.mono ?_); rintro y w2 ⟨rfl, hk2⟩; have hb2 := hk2.below; have ⟨r0, r1, r2⟩ : w2.cell? ⟨w.heap.size, 0, none⟩ = some (.slice p n u) ∧ w2.cell? ⟨w.heap.size, 1, none⟩ = some (.slice q m v) ∧ w2.cell? ⟨w.heap.size + 1, 4, none⟩ = some (.int .i64 k) := (by and_intros <;> (with_reducible repeat (first | refine kc_drew ?_ | refine kc_drewN _ ?_ | refine kc_below hb2 ?_ | (refine kc_new ?_ ?_; (focus first | rfl | (simp only [World.size_alloc, World.size_setCell, World.size_drew, size_drewN]; done)); (focus first | rfl | (simp; done))) | (refine kc_set0 ?_ ?_; (focus first | rfl | (simp; done))) | exact ct_of (by assumption) | refine ct_drew ?_ | refine ct_drewN _ ?_ | refine ct_below hb2 ?_ | (refine ct_new ?_ ?_; (focus first | rfl | (simp only [World.size_alloc, World.size_setCell, World.size_drew, size_drewN]; done)); (focus first | rfl | (simp; done))) | refine ct_set _ _ ?_ | refine ct_alloc _ ?_ | (refine kc_set ?_ ?_; (focus first | (intro hx; injection hx; omega) | (simp; done))) | refine kc_alloc _ ?_))); have hB : Below w.heap.size w w2 := (by (with_reducible repeat (first | exact Below.refl _ _ | refine bl_alloc ?_ _ | refine bl_drew ?_ | refine bl_drewN ?_ _ | (refine bl_set ?_ ?_ _; (focus dsimp only; omega)) | refine bl_call ?_ hb2)))))
      | (go_at_call 72; ((with_reducible refine (HI1 _).out.mono ?_); rintro y w' ⟨rfl, rfl⟩)))
    go_ret2
    exact ⟨rfl, hB⟩

theorem gearFits_bad (p q : Option Addr) (n u m v : Nat) (a b c d k : Int) (w : World) (hvl : vlF a b c d k = false) :
    Calls Try.prog 34 #[.agg #[.slice p n u, .slice q m v], .agg #[.int .i64 a, .int .i64 b, .int .i64 c, .int .i64 d, .int .i64 k]] w fun e w' => e = .returned (.tuple #[.bool false, .int .i64 1]) ∧ Below w.heap.size w w' := by
  have HVL := fun W => Lib.hid (validLimits_any a b c d k W)
  simp only [hvl] at HVL
  clear hvl
  go_enter Try.func34, Try.ntmps34
  go_wp2_with (go_at_call 73; ((with_reducible refine (HVL _).out.mono ?_); rintro y w2 ⟨rfl, hk2⟩; have hb2 := hk2.below; have hB : Below w.heap.size w w2 := (by (with_reducible repeat (first | exact Below.refl _ _ | refine bl_alloc ?_ _ | refine bl_drew ?_ | refine bl_drewN ?_ _ | (refine bl_set ?_ ?_ _; (focus dsimp only; omega)) | refine bl_call ?_ hb2)))))
  go_ret2
  exact ⟨rfl, hB⟩
end Go.Proofs.Ytoenimkgagndnaa
