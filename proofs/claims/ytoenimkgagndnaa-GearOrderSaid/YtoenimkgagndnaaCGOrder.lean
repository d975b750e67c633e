/- GearOrder: the walk. -/
import Derived.Test.YtoenimkgagndnaaCTame
import Derived.Test.YtoenimkgagndnaaCRel
import Derived.Test.YtoenimkgagndnaaGd
namespace Go.Proofs.Ytoenimkgagndnaa
set_option linter.unusedVariables false
set_option linter.unusedSimpArgs false
open Go.RowKit Go.Lib

/-- What the operations of the first statement yield. -/
def RTame (base : Nat) (n1 d1 n2 d2 n3 d3 p1 q1 p2 q2 p3 q3 : Int) : Nat → Value → Nat → Nat → World → Prop
  | 0, v, _, _, _ => v = .agg #[.int .i64 n1, .int .i64 d1]
  | 1, v, _, _, _ => v = .agg #[.int .i64 p1, .int .i64 q1]
  | 2, v, _, _, _ => v = .agg #[.int .i64 n2, .int .i64 d2]
  | 3, v, _, _, _ => v = .agg #[.int .i64 p2, .int .i64 q2]
  | 4, v, _, _, _ => v = .agg #[.int .i64 n3, .int .i64 d3]
  | 5, v, _, _, _ => v = .agg #[.int .i64 p3, .int .i64 q3]
  | 6, v, lo, hi, w => ∃ g, v = .pointer (some ⟨g, 0, none⟩) ∧ (base ≤ g ∧ lo ≤ g) ∧ g < hi ∧ Hid ((∀ i, i < 2 → w.cell? ⟨g, i, none⟩ = some (.int .i64 0)) ∧ ∀ i, i < 2 → w.frozen? ⟨g, i, none⟩ = false)
  | 7, v, lo, hi, w => ∃ g, v = .pointer (some ⟨g, 0, none⟩) ∧ (base ≤ g ∧ lo ≤ g) ∧ g < hi ∧ Hid ((∀ i, i < 2 → w.cell? ⟨g, i, none⟩ = some (.int .i64 0)) ∧ ∀ i, i < 2 → w.frozen? ⟨g, i, none⟩ = false)
  | 8, v, lo, hi, w => ∃ g, v = .pointer (some ⟨g, 0, none⟩) ∧ (base ≤ g ∧ lo ≤ g) ∧ g < hi ∧ Hid ((∀ i, i < 2 → w.cell? ⟨g, i, none⟩ = some (.int .i64 0)) ∧ ∀ i, i < 2 → w.frozen? ⟨g, i, none⟩ = false)
  | _, _, _, _, _ => True

set_option maxHeartbeats 8000000 in
set_option maxRecDepth 100000 in
theorem gearOrder_b (n1 d1 n2 d2 n3 d3 p1 q1 p2 q2 p3 q3 x1 x2 x3 x4 s1 s2 t1 t2 : Int) (w : World) (np : ¬ p1 = p2)
    (HT1 : ∀ W, Hid (Calls Try.prog 40 #[.agg #[.int .i64 n1, .int .i64 d1], .int .i64 1000000] W fun v w' => v = .returned (.agg #[.int .i64 p1, .int .i64 q1]) ∧ Below W.heap.size W w'))
    (HT2 : ∀ W, Hid (Calls Try.prog 40 #[.agg #[.int .i64 n2, .int .i64 d2], .int .i64 1000000] W fun v w' => v = .returned (.agg #[.int .i64 p2, .int .i64 q2]) ∧ Below W.heap.size W w'))
    (HT3 : ∀ W, Hid (Calls Try.prog 40 #[.agg #[.int .i64 n3, .int .i64 d3], .int .i64 1000000] W fun v w' => v = .returned (.agg #[.int .i64 p3, .int .i64 q3]) ∧ Below W.heap.size W w'))
    (HC1 : (∀ W, Hid (Calls Try.prog 45 #[.agg #[.int .i64 p1, .int .i64 q1], .agg #[.int .i64 p2, .int .i64 q2]] W fun v w' => v = .returned (.tuple #[.int .i64 x1, .int .i64 0]) ∧ Below W.heap.size W w'))) (HC2 : (∀ W, Hid (Calls Try.prog 45 #[.agg #[.int .i64 p2, .int .i64 q2], .agg #[.int .i64 p1, .int .i64 q1]] W fun v w' => v = .returned (.tuple #[.int .i64 x2, .int .i64 0]) ∧ Below W.heap.size W w'))) (HC3 : (∀ W, Hid (Calls Try.prog 45 #[.agg #[.int .i64 p2, .int .i64 q2], .agg #[.int .i64 p3, .int .i64 q3]] W fun v w' => v = .returned (.tuple #[.int .i64 x3, .int .i64 0]) ∧ Below W.heap.size W w'))) (HC4 : (∀ W, Hid (Calls Try.prog 45 #[.agg #[.int .i64 p1, .int .i64 q1], .agg #[.int .i64 p3, .int .i64 q3]] W fun v w' => v = .returned (.tuple #[.int .i64 x4, .int .i64 0]) ∧ Below W.heap.size W w')))
    (HA1 : (∀ W, Hid (Calls Try.prog 46 #[.agg #[.int .i64 p1, .int .i64 q1], .agg #[.int .i64 p3, .int .i64 q3]] W fun v w' => v = .returned (.tuple #[.agg #[.int .i64 s1, .int .i64 s2], .int .i64 0]) ∧ Below W.heap.size W w'))) (HA2 : (∀ W, Hid (Calls Try.prog 46 #[.agg #[.int .i64 p2, .int .i64 q2], .agg #[.int .i64 p3, .int .i64 q3]] W fun v w' => v = .returned (.tuple #[.agg #[.int .i64 t1, .int .i64 t2], .int .i64 0]) ∧ Below W.heap.size W w'))) (HC5 : (∀ W, Hid (Calls Try.prog 45 #[.agg #[.int .i64 s1, .int .i64 s2], .agg #[.int .i64 t1, .int .i64 t2]] W fun v w' => v = .returned (.tuple #[.int .i64 x1, .int .i64 0]) ∧ Below W.heap.size W w')))
    (HX : Hid ((x1 = 1 ∧ x2 = -1) ∨ (x1 = -1 ∧ x2 = 1 ∧ x3 = 1) ∨ (x1 = -1 ∧ x2 = 1 ∧ x3 = 0 ∧ x4 = -1) ∨ (x1 = -1 ∧ x2 = 1 ∧ x3 = -1 ∧ x4 = -1))) :
    Calls Try.prog 9 #[.agg #[.int .i64 n1, .int .i64 d1], .agg #[.int .i64 n2, .int .i64 d2], .agg #[.int .i64 n3, .int .i64 d3]] w fun v w' => v = .returned (.bool true) ∧ Below w.heap.size w w' := by
  have k0 : wrap64 0 = 0 := by kernel_rfl
  have k1 : wrap64 1 = 1 := by kernel_rfl
  have k2 : wrap64 (-1) = -1 := by kernel_rfl
  go_enter Try.func9, Try.ntmps9
  go_upto_region 1 with fail
  go_cut [7, 8, 9] (fun s t o wx => ∃ g7 g8 g9, s = .pointer (some ⟨g7, 0, none⟩) ∧ t = .pointer (some ⟨g8, 0, none⟩) ∧ o = .pointer (some ⟨g9, 0, none⟩) ∧ ((wx.cell? ⟨g7, 0, none⟩ = some (.int .i64 p1) ∧ wx.cell? ⟨g7, 1, none⟩ = some (.int .i64 q1)) ∧ (wx.cell? ⟨g8, 0, none⟩ = some (.int .i64 p2) ∧ wx.cell? ⟨g8, 1, none⟩ = some (.int .i64 q2)) ∧ (wx.cell? ⟨g9, 0, none⟩ = some (.int .i64 p3) ∧ wx.cell? ⟨g9, 1, none⟩ = some (.int .i64 q3))) ∧ Below w.heap.size w wx)
  case first =>
    refine wp_region_told [0, 1, 2, 3, 4, 5, 6, 7, 8] [[], [0], [], [1, 2], [], [3, 4], [], [], []] (RTame (w.heap.size + 1 + 1 + 1) n1 d1 n2 d2 n3 d3 p1 q1 p2 q2 p3 q3) (by kernel_rfl) (by kernel_rfl) (by kernel_rfl) (by decide) (by decide) (by kernel_rfl) ?_ ?_ ?_
    · intro i hi v lo hi' W W' h hb
      simp only [List.mem_cons, List.not_mem_nil, or_false] at hi
      rcases hi with rfl | rfl | rfl | rfl | rfl | rfl | rfl | rfl | rfl
      · exact h
      · exact h
      · exact h
      · exact h
      · exact h
      · exact h
      · (obtain ⟨g, h1, h2, h3, h4⟩ := h; exact ⟨g, h1, h2, h3, fun i hi => kc_below hb (h4.out.1 i hi), fun i hi => kf_below hb (World.block_lt_of_cell? _ _ (h4.out.1 i hi)) (h4.out.2 i hi)⟩)
      · (obtain ⟨g, h1, h2, h3, h4⟩ := h; exact ⟨g, h1, h2, h3, fun i hi => kc_below hb (h4.out.1 i hi), fun i hi => kf_below hb (World.block_lt_of_cell? _ _ (h4.out.1 i hi)) (h4.out.2 i hi)⟩)
      · (obtain ⟨g, h1, h2, h3, h4⟩ := h; exact ⟨g, h1, h2, h3, fun i hi => kc_below hb (h4.out.1 i hi), fun i hi => kf_below hb (World.block_lt_of_cell? _ _ (h4.out.1 i hi)) (h4.out.2 i hi)⟩)
    · intro j hj o tl ho W val lo hi hb hv
      simp only [List.mem_cons, List.not_mem_nil, or_false] at hj
      rcases hj with rfl | rfl | rfl | rfl | rfl | rfl | rfl | rfl | rfl
      · injection ho with h1 h2
        subst h1
        clear h2
        refine givesR_of (by rfl) (fun K hK => ?_) (by simp)
        simp only [putAll, dstOf, List.getD_cons_zero, List.getD_cons_succ, List.getElem?_toArray, List.getElem?_cons_zero, List.getElem?_cons_succ, Option.bind_some, Act.put, List.setIfInBounds_toArray, List.set_cons_zero, List.set_cons_succ] at hK ⊢
        (have ⟨x0, x1⟩ : W.cell? ⟨w.heap.size, 0, none⟩ = some (.int .i64 n1) ∧ W.cell? ⟨w.heap.size, 1, none⟩ = some (.int .i64 d1) := (by and_intros <;> (with_reducible repeat (first | refine kc_drew ?_ | refine kc_drewN _ ?_ | refine kc_below hb ?_ | (refine kc_new ?_ ?_; (focus first | rfl | (simp only [World.size_alloc, World.size_setCell, World.size_drew, size_drewN]; done)); (focus first | rfl | (simp; done))) | (refine kc_set0 ?_ ?_; (focus first | rfl | (simp; done))) | exact ct_of (by assumption) | refine ct_drew ?_ | refine ct_drewN _ ?_ | refine ct_below hb ?_ | (refine ct_new ?_ ?_; (focus first | rfl | (simp only [World.size_alloc, World.size_setCell, World.size_drew, size_drewN]; done)); (focus first | rfl | (simp; done))) | refine ct_set _ _ ?_ | refine ct_alloc _ ?_ | (refine kc_set ?_ ?_; (focus first | (intro hx; injection hx; omega) | (simp; done))) | refine kc_alloc _ ?_))); go_simp; refine hK.out _ _ (Below.refl _ _) ?_; exact rfl)
      · injection ho with h1 h2
        subst h1
        clear h2
        have e0 : val 0 = .agg #[.int .i64 n1, .int .i64 d1] := hv 0 (by simp)
        refine givesR_of (by rfl) (fun K hK => ?_) (by simp)
        simp only [putAll, dstOf, List.getD_cons_zero, List.getD_cons_succ, List.getElem?_toArray, List.getElem?_cons_zero, List.getElem?_cons_succ, Option.bind_some, Act.put, List.setIfInBounds_toArray, List.set_cons_zero, List.set_cons_succ, e0] at hK ⊢
        (go_simp; go_at_call 40; ((with_reducible refine (HT1 _).out.mono ?_); rintro v w2 ⟨rfl, hb2⟩; dsimp only; refine hK.out _ _ hb2 ?_; exact rfl))
      · injection ho with h1 h2
        subst h1
        clear h2
        refine givesR_of (by rfl) (fun K hK => ?_) (by simp)
        simp only [putAll, dstOf, List.getD_cons_zero, List.getD_cons_succ, List.getElem?_toArray, List.getElem?_cons_zero, List.getElem?_cons_succ, Option.bind_some, Act.put, List.setIfInBounds_toArray, List.set_cons_zero, List.set_cons_succ] at hK ⊢
        (have ⟨x0, x1⟩ : W.cell? ⟨w.heap.size + 1, 0, none⟩ = some (.int .i64 n2) ∧ W.cell? ⟨w.heap.size + 1, 1, none⟩ = some (.int .i64 d2) := (by and_intros <;> (with_reducible repeat (first | refine kc_drew ?_ | refine kc_drewN _ ?_ | refine kc_below hb ?_ | (refine kc_new ?_ ?_; (focus first | rfl | (simp only [World.size_alloc, World.size_setCell, World.size_drew, size_drewN]; done)); (focus first | rfl | (simp; done))) | (refine kc_set0 ?_ ?_; (focus first | rfl | (simp; done))) | exact ct_of (by assumption) | refine ct_drew ?_ | refine ct_drewN _ ?_ | refine ct_below hb ?_ | (refine ct_new ?_ ?_; (focus first | rfl | (simp only [World.size_alloc, World.size_setCell, World.size_drew, size_drewN]; done)); (focus first | rfl | (simp; done))) | refine ct_set _ _ ?_ | refine ct_alloc _ ?_ | (refine kc_set ?_ ?_; (focus first | (intro hx; injection hx; omega) | (simp; done))) | refine kc_alloc _ ?_))); go_simp; refine hK.out _ _ (Below.refl _ _) ?_; exact rfl)
      · injection ho with h1 h2
        subst h1
        clear h2
        have e1 : val 1 = .agg #[.int .i64 p1, .int .i64 q1] := hv 1 (by simp)
        have e2 : val 2 = .agg #[.int .i64 n2, .int .i64 d2] := hv 2 (by simp)
        refine givesR_of (by rfl) (fun K hK => ?_) (by simp)
        simp only [putAll, dstOf, List.getD_cons_zero, List.getD_cons_succ, List.getElem?_toArray, List.getElem?_cons_zero, List.getElem?_cons_succ, Option.bind_some, Act.put, List.setIfInBounds_toArray, List.set_cons_zero, List.set_cons_succ, e1, e2] at hK ⊢
        (go_simp; go_at_call 40; ((with_reducible refine (HT2 _).out.mono ?_); rintro v w2 ⟨rfl, hb2⟩; dsimp only; refine hK.out _ _ hb2 ?_; exact rfl))
      · injection ho with h1 h2
        subst h1
        clear h2
        refine givesR_of (by rfl) (fun K hK => ?_) (by simp)
        simp only [putAll, dstOf, List.getD_cons_zero, List.getD_cons_succ, List.getElem?_toArray, List.getElem?_cons_zero, List.getElem?_cons_succ, Option.bind_some, Act.put, List.setIfInBounds_toArray, List.set_cons_zero, List.set_cons_succ] at hK ⊢
        (have ⟨x0, x1⟩ : W.cell? ⟨w.heap.size + 1 + 1, 0, none⟩ = some (.int .i64 n3) ∧ W.cell? ⟨w.heap.size + 1 + 1, 1, none⟩ = some (.int .i64 d3) := (by and_intros <;> (with_reducible repeat (first | refine kc_drew ?_ | refine kc_drewN _ ?_ | refine kc_below hb ?_ | (refine kc_new ?_ ?_; (focus first | rfl | (simp only [World.size_alloc, World.size_setCell, World.size_drew, size_drewN]; done)); (focus first | rfl | (simp; done))) | (refine kc_set0 ?_ ?_; (focus first | rfl | (simp; done))) | exact ct_of (by assumption) | refine ct_drew ?_ | refine ct_drewN _ ?_ | refine ct_below hb ?_ | (refine ct_new ?_ ?_; (focus first | rfl | (simp only [World.size_alloc, World.size_setCell, World.size_drew, size_drewN]; done)); (focus first | rfl | (simp; done))) | refine ct_set _ _ ?_ | refine ct_alloc _ ?_ | (refine kc_set ?_ ?_; (focus first | (intro hx; injection hx; omega) | (simp; done))) | refine kc_alloc _ ?_))); go_simp; refine hK.out _ _ (Below.refl _ _) ?_; exact rfl)
      · injection ho with h1 h2
        subst h1
        clear h2
        have e3 : val 3 = .agg #[.int .i64 p2, .int .i64 q2] := hv 3 (by simp)
        have e4 : val 4 = .agg #[.int .i64 n3, .int .i64 d3] := hv 4 (by simp)
        refine givesR_of (by rfl) (fun K hK => ?_) (by simp)
        simp only [putAll, dstOf, List.getD_cons_zero, List.getD_cons_succ, List.getElem?_toArray, List.getElem?_cons_zero, List.getElem?_cons_succ, Option.bind_some, Act.put, List.setIfInBounds_toArray, List.set_cons_zero, List.set_cons_succ, e3, e4] at hK ⊢
        (go_simp; go_at_call 40; ((with_reducible refine (HT3 _).out.mono ?_); rintro v w2 ⟨rfl, hb2⟩; dsimp only; refine hK.out _ _ hb2 ?_; exact rfl))
      · injection ho with h1 h2
        subst h1
        clear h2
        refine givesR_of (by rfl) (fun K hK => ?_) (by simp)
        simp only [putAll, dstOf, List.getD_cons_zero, List.getD_cons_succ, List.getElem?_toArray, List.getElem?_cons_zero, List.getElem?_cons_succ, Option.bind_some, Act.put, List.setIfInBounds_toArray, List.set_cons_zero, List.set_cons_succ] at hK ⊢
        (go_simp; refine hK.out _ _ (by (with_reducible repeat (first | exact Below.refl _ _ | refine bl_alloc ?_ _ | refine bl_drew ?_ | refine bl_drewN ?_ _ | (refine bl_set ?_ ?_ _; (focus dsimp only; omega))))) ?_; exact ⟨_, rfl, ⟨by have := hb.size; (simp only [World.size_alloc] at this); omega, Nat.le_refl _⟩, by simp, fun i hi => (by rcases (show i = 0 ∨ i = 1 by omega) with rfl | rfl <;> exact kc_new rfl rfl), fun i hi => kf_new rfl _⟩)
      · injection ho with h1 h2
        subst h1
        clear h2
        refine givesR_of (by rfl) (fun K hK => ?_) (by simp)
        simp only [putAll, dstOf, List.getD_cons_zero, List.getD_cons_succ, List.getElem?_toArray, List.getElem?_cons_zero, List.getElem?_cons_succ, Option.bind_some, Act.put, List.setIfInBounds_toArray, List.set_cons_zero, List.set_cons_succ] at hK ⊢
        (go_simp; refine hK.out _ _ (by (with_reducible repeat (first | exact Below.refl _ _ | refine bl_alloc ?_ _ | refine bl_drew ?_ | refine bl_drewN ?_ _ | (refine bl_set ?_ ?_ _; (focus dsimp only; omega))))) ?_; exact ⟨_, rfl, ⟨by have := hb.size; (simp only [World.size_alloc] at this); omega, Nat.le_refl _⟩, by simp, fun i hi => (by rcases (show i = 0 ∨ i = 1 by omega) with rfl | rfl <;> exact kc_new rfl rfl), fun i hi => kf_new rfl _⟩)
      · injection ho with h1 h2
        subst h1
        clear h2
        refine givesR_of (by rfl) (fun K hK => ?_) (by simp)
        simp only [putAll, dstOf, List.getD_cons_zero, List.getD_cons_succ, List.getElem?_toArray, List.getElem?_cons_zero, List.getElem?_cons_succ, Option.bind_some, Act.put, List.setIfInBounds_toArray, List.set_cons_zero, List.set_cons_succ] at hK ⊢
        (go_simp; refine hK.out _ _ (by (with_reducible repeat (first | exact Below.refl _ _ | refine bl_alloc ?_ _ | refine bl_drew ?_ | refine bl_drewN ?_ _ | (refine bl_set ?_ ?_ _; (focus dsimp only; omega))))) ?_; exact ⟨_, rfl, ⟨by have := hb.size; (simp only [World.size_alloc] at this); omega, Nat.le_refl _⟩, by simp, fun i hi => (by rcases (show i = 0 ∨ i = 1 by omega) with rfl | rfl <;> exact kc_new rfl rfl), fun i hi => kf_new rfl _⟩)
    · intro W val lo hi hb hv hd
      have e0 : val 0 = .agg #[.int .i64 n1, .int .i64 d1] := hv 0 (by simp)
      have e1 : val 1 = .agg #[.int .i64 p1, .int .i64 q1] := hv 1 (by simp)
      have e2 : val 2 = .agg #[.int .i64 n2, .int .i64 d2] := hv 2 (by simp)
      have e3 : val 3 = .agg #[.int .i64 p2, .int .i64 q2] := hv 3 (by simp)
      have e4 : val 4 = .agg #[.int .i64 n3, .int .i64 d3] := hv 4 (by simp)
      have e5 : val 5 = .agg #[.int .i64 p3, .int .i64 q3] := hv 5 (by simp)
      obtain ⟨g7, e6, hg7, hg7', Hg7⟩ := hv 6 (by simp)
      obtain ⟨g8, e7, hg8, hg8', Hg8⟩ := hv 7 (by simp)
      obtain ⟨g9, e8, hg9, hg9', Hg9⟩ := hv 8 (by simp)
      have d67 := hd 6 (by simp) 7 (by simp) (by decide)
      have d68 := hd 6 (by simp) 8 (by simp) (by decide)
      have d78 := hd 7 (by simp) 8 (by simp) (by decide)
      have n78 : g7 ≠ g8 := by omega
      have n87 : g8 ≠ g7 := by omega
      have n79 : g7 ≠ g9 := by omega
      have n97 : g9 ≠ g7 := by omega
      have n89 : g8 ≠ g9 := by omega
      have n98 : g9 ≠ g8 := by omega
      have y0 := Hg7.out.1 0 (by omega)
      have y1 := Hg7.out.1 1 (by omega)
      have y2 := Hg8.out.1 0 (by omega)
      have y3 := Hg8.out.1 1 (by omega)
      have y4 := Hg9.out.1 0 (by omega)
      have y5 := Hg9.out.1 1 (by omega)
      have f0 := Hg7.out.2 0 (by omega)
      have f1 := Hg7.out.2 1 (by omega)
      have f2 := Hg8.out.2 0 (by omega)
      have f3 := Hg8.out.2 1 (by omega)
      have f4 := Hg9.out.2 0 (by omega)
      have f5 := Hg9.out.2 1 (by omega)
      have gzg7 := World.block_lt_of_cell? _ _ y0
      have gzg8 := World.block_lt_of_cell? _ _ y2
      have gzg9 := World.block_lt_of_cell? _ _ y4
      simp only at gzg7 gzg8 gzg9
      have hBW : Below w.heap.size w W := (by (with_reducible repeat (first | exact Below.refl _ _ | refine bl_alloc ?_ _ | refine bl_drew ?_ | refine bl_drewN ?_ _ | (refine bl_set ?_ ?_ _; (focus dsimp only; omega)) | refine bl_call ?_ hb)))
      obtain ⟨gbg7, _⟩ := hg7
      obtain ⟨gbg8, _⟩ := hg8
      obtain ⟨gbg9, _⟩ := hg9
      clear hv hd Hg7 Hg8 Hg9
      simp only [putAll, dstOf, List.getD_cons_zero, List.getD_cons_succ, List.getElem?_toArray, List.getElem?_cons_zero, List.getElem?_cons_succ, Option.bind_some, Act.put, List.setIfInBounds_toArray, List.set_cons_zero, List.set_cons_succ, e0, e1, e2, e3, e4, e5, e6, e7, e8]
      refine wpAnyH_ready (rs := [9]) (by kernel_rfl) (by simp) ?_
      refine consH 9 rfl (fun K hK => ?_) ?_
      · go_simp
        refine hK.out _ _ ?_ (fun hHeld => ?_)
        · trivial
        clear hK K
        (try simp only [Act.put, List.setIfInBounds_toArray, List.set_cons_zero, List.set_cons_succ])
        refine wpAnyH_ready (rs := [10]) (by kernel_rfl) (by simp) ?_
        refine consH 10 rfl (fun K hK => ?_) ?_
        · go_simp
          refine hK.out _ _ ?_ (fun hHeld => ?_)
          · trivial
          clear hK K
          (try simp only [Act.put, List.setIfInBounds_toArray, List.set_cons_zero, List.set_cons_succ])
          refine wpAnyH_ready (rs := [11]) (by kernel_rfl) (by simp) ?_
          refine consH 11 rfl (fun K hK => ?_) ?_
          · go_simp
            refine hK.out _ _ ?_ (fun hHeld => ?_)
            · trivial
            clear hK K
            (try simp only [Act.put, List.setIfInBounds_toArray, List.set_cons_zero, List.set_cons_succ])
            refine wpAnyH_done (by kernel_rfl) ?_ _
            skip
            go_wp2_with fail
            go_meet
            refine ⟨g7, g8, g9, rfl, rfl, rfl, ⟨⟨?_, ?_⟩, ⟨?_, ?_⟩, ⟨?_, ?_⟩⟩, ?_⟩
            all_goals first | ((with_reducible repeat (first | exact y0 | exact y1 | exact y2 | exact y3 | exact y4 | exact y5 | refine kc_drew ?_ | refine kc_drewN _ ?_ | (refine kc_new ?_ ?_; (focus first | rfl | (simp only [World.size_alloc, World.size_setCell, World.size_drew, size_drewN]; done)); (focus first | rfl | (simp; done))) | (refine kc_set0 ?_ ?_; (focus first | rfl | (simp; done))) | exact ct_of (by assumption) | refine ct_drew ?_ | refine ct_drewN _ ?_ | (refine ct_new ?_ ?_; (focus first | rfl | (simp only [World.size_alloc, World.size_setCell, World.size_drew, size_drewN]; done)); (focus first | rfl | (simp; done))) | refine ct_set _ _ ?_ | refine ct_alloc _ ?_ | (refine kc_set ?_ ?_; (focus first | (intro hx; injection hx; omega) | (simp; done))) | refine kc_alloc _ ?_)); done) | ((with_reducible repeat (first | exact hBW | exact Below.refl _ _ | refine bl_alloc ?_ _ | refine bl_drew ?_ | refine bl_drewN ?_ _ | (refine bl_set ?_ ?_ _; (focus dsimp only; omega)))); done)
          exact AllReadyH.nil
        exact AllReadyH.nil
      exact AllReadyH.nil
  case rest =>
    obtain ⟨g7, g8, g9, rfl, rfl, rfl, ⟨⟨r0, r1⟩, ⟨r2, r3⟩, r4, r5⟩, hB⟩ := hcut
    have gA : g7 < wc.heap.size := World.block_lt_of_cell? _ _ r0
    have gB : g8 < wc.heap.size := World.block_lt_of_cell? _ _ r2
    have gC : g9 < wc.heap.size := World.block_lt_of_cell? _ _ r4
    clear HT1 HT2 HT3
    go_upto_region 6 with (first | (have hgd := hb4; clear hgd; go_at_call 45; ((with_reducible refine (HC4 _).out.mono ?_); rintro v w5 ⟨rfl, hb5⟩; have ⟨r0, r1, r2, r3, r4, r5⟩ : w5.cell? ⟨g7, 0, none⟩ = some (.int .i64 p1) ∧ w5.cell? ⟨g7, 1, none⟩ = some (.int .i64 q1) ∧ w5.cell? ⟨g8, 0, none⟩ = some (.int .i64 p2) ∧ w5.cell? ⟨g8, 1, none⟩ = some (.int .i64 q2) ∧ w5.cell? ⟨g9, 0, none⟩ = some (.int .i64 p3) ∧ w5.cell? ⟨g9, 1, none⟩ = some (.int .i64 q3) := (by and_intros <;> (with_reducible repeat (first | exact r0 | exact r1 | exact r2 | exact r3 | exact r4 | exact r5 | refine kc_drew ?_ | refine kc_drewN _ ?_ | refine kc_below hb5 ?_ | (refine kc_new ?_ ?_; (focus first | rfl | (simp only [World.size_alloc, World.size_setCell, World.size_drew, size_drewN]; done)); (focus first | rfl | (simp; done))) | (refine kc_set0 ?_ ?_; (focus first | rfl | (simp; done))) | exact ct_of (by assumption) | refine ct_drew ?_ | refine ct_drewN _ ?_ | refine ct_below hb5 ?_ | (refine ct_new ?_ ?_; (focus first | rfl | (simp only [World.size_alloc, World.size_setCell, World.size_drew, size_drewN]; done)); (focus first | rfl | (simp; done))) | refine ct_set _ _ ?_ | refine ct_alloc _ ?_ | (refine kc_set ?_ ?_; (focus first | (intro hx; injection hx; omega) | (simp; done))) | refine kc_alloc _ ?_))); have hB : Below w.heap.size w w5 := (by (with_reducible repeat (first | exact hB | exact Below.refl _ _ | refine bl_alloc ?_ _ | refine bl_drew ?_ | refine bl_drewN ?_ _ | (refine bl_set ?_ ?_ _; (focus dsimp only; omega)) | refine bl_call ?_ hb5))); have gA : g7 < w5.heap.size := (World.block_lt_of_cell? _ _ r0); have gB : g8 < w5.heap.size := (World.block_lt_of_cell? _ _ r2); have gC : g9 < w5.heap.size := (World.block_lt_of_cell? _ _ r4))) | (have hgd := hb3; clear hgd; go_at_call 45; ((with_reducible refine (HC3 _).out.mono ?_); rintro v w4 ⟨rfl, hb4⟩; have ⟨r0, r1, r2, r3, r4, r5⟩ : w4.cell? ⟨g7, 0, none⟩ = some (.int .i64 p1) ∧ w4.cell? ⟨g7, 1, none⟩ = some (.int .i64 q1) ∧ w4.cell? ⟨g8, 0, none⟩ = some (.int .i64 p2) ∧ w4.cell? ⟨g8, 1, none⟩ = some (.int .i64 q2) ∧ w4.cell? ⟨g9, 0, none⟩ = some (.int .i64 p3) ∧ w4.cell? ⟨g9, 1, none⟩ = some (.int .i64 q3) := (by and_intros <;> (with_reducible repeat (first | exact r0 | exact r1 | exact r2 | exact r3 | exact r4 | exact r5 | refine kc_drew ?_ | refine kc_drewN _ ?_ | refine kc_below hb4 ?_ | (refine kc_new ?_ ?_; (focus first | rfl | (simp only [World.size_alloc, World.size_setCell, World.size_drew, size_drewN]; done)); (focus first | rfl | (simp; done))) | (refine kc_set0 ?_ ?_; (focus first | rfl | (simp; done))) | exact ct_of (by assumption) | refine ct_drew ?_ | refine ct_drewN _ ?_ | refine ct_below hb4 ?_ | (refine ct_new ?_ ?_; (focus first | rfl | (simp only [World.size_alloc, World.size_setCell, World.size_drew, size_drewN]; done)); (focus first | rfl | (simp; done))) | refine ct_set _ _ ?_ | refine ct_alloc _ ?_ | (refine kc_set ?_ ?_; (focus first | (intro hx; injection hx; omega) | (simp; done))) | refine kc_alloc _ ?_))); have hB : Below w.heap.size w w4 := (by (with_reducible repeat (first | exact hB | exact Below.refl _ _ | refine bl_alloc ?_ _ | refine bl_drew ?_ | refine bl_drewN ?_ _ | (refine bl_set ?_ ?_ _; (focus dsimp only; omega)) | refine bl_call ?_ hb4))); have gA : g7 < w4.heap.size := (World.block_lt_of_cell? _ _ r0); have gB : g8 < w4.heap.size := (World.block_lt_of_cell? _ _ r2); have gC : g9 < w4.heap.size := (World.block_lt_of_cell? _ _ r4))) | (have hgd := hb2; clear hgd; go_at_call 45; ((with_reducible refine (HC2 _).out.mono ?_); rintro v w3 ⟨rfl, hb3⟩; have ⟨r0, r1, r2, r3, r4, r5⟩ : w3.cell? ⟨g7, 0, none⟩ = some (.int .i64 p1) ∧ w3.cell? ⟨g7, 1, none⟩ = some (.int .i64 q1) ∧ w3.cell? ⟨g8, 0, none⟩ = some (.int .i64 p2) ∧ w3.cell? ⟨g8, 1, none⟩ = some (.int .i64 q2) ∧ w3.cell? ⟨g9, 0, none⟩ = some (.int .i64 p3) ∧ w3.cell? ⟨g9, 1, none⟩ = some (.int .i64 q3) := (by and_intros <;> (with_reducible repeat (first | exact r0 | exact r1 | exact r2 | exact r3 | exact r4 | exact r5 | refine kc_drew ?_ | refine kc_drewN _ ?_ | refine kc_below hb3 ?_ | (refine kc_new ?_ ?_; (focus first | rfl | (simp only [World.size_alloc, World.size_setCell, World.size_drew, size_drewN]; done)); (focus first | rfl | (simp; done))) | (refine kc_set0 ?_ ?_; (focus first | rfl | (simp; done))) | exact ct_of (by assumption) | refine ct_drew ?_ | refine ct_drewN _ ?_ | refine ct_below hb3 ?_ | (refine ct_new ?_ ?_; (focus first | rfl | (simp only [World.size_alloc, World.size_setCell, World.size_drew, size_drewN]; done)); (focus first | rfl | (simp; done))) | refine ct_set _ _ ?_ | refine ct_alloc _ ?_ | (refine kc_set ?_ ?_; (focus first | (intro hx; injection hx; omega) | (simp; done))) | refine kc_alloc _ ?_))); have hB : Below w.heap.size w w3 := (by (with_reducible repeat (first | exact hB | exact Below.refl _ _ | refine bl_alloc ?_ _ | refine bl_drew ?_ | refine bl_drewN ?_ _ | (refine bl_set ?_ ?_ _; (focus dsimp only; omega)) | refine bl_call ?_ hb3))); have gA : g7 < w3.heap.size := (World.block_lt_of_cell? _ _ r0); have gB : g8 < w3.heap.size := (World.block_lt_of_cell? _ _ r2); have gC : g9 < w3.heap.size := (World.block_lt_of_cell? _ _ r4))) | (go_at_call 45; ((with_reducible refine (HC1 _).out.mono ?_); rintro v w2 ⟨rfl, hb2⟩; have ⟨r0, r1, r2, r3, r4, r5⟩ : w2.cell? ⟨g7, 0, none⟩ = some (.int .i64 p1) ∧ w2.cell? ⟨g7, 1, none⟩ = some (.int .i64 q1) ∧ w2.cell? ⟨g8, 0, none⟩ = some (.int .i64 p2) ∧ w2.cell? ⟨g8, 1, none⟩ = some (.int .i64 q2) ∧ w2.cell? ⟨g9, 0, none⟩ = some (.int .i64 p3) ∧ w2.cell? ⟨g9, 1, none⟩ = some (.int .i64 q3) := (by and_intros <;> (with_reducible repeat (first | exact r0 | exact r1 | exact r2 | exact r3 | exact r4 | exact r5 | refine kc_drew ?_ | refine kc_drewN _ ?_ | refine kc_below hb2 ?_ | (refine kc_new ?_ ?_; (focus first | rfl | (simp only [World.size_alloc, World.size_setCell, World.size_drew, size_drewN]; done)); (focus first | rfl | (simp; done))) | (refine kc_set0 ?_ ?_; (focus first | rfl | (simp; done))) | exact ct_of (by assumption) | refine ct_drew ?_ | refine ct_drewN _ ?_ | refine ct_below hb2 ?_ | (refine ct_new ?_ ?_; (focus first | rfl | (simp only [World.size_alloc, World.size_setCell, World.size_drew, size_drewN]; done)); (focus first | rfl | (simp; done))) | refine ct_set _ _ ?_ | refine ct_alloc _ ?_ | (refine kc_set ?_ ?_; (focus first | (intro hx; injection hx; omega) | (simp; done))) | refine kc_alloc _ ?_))); have hB : Below w.heap.size w w2 := (by (with_reducible repeat (first | exact hB | exact Below.refl _ _ | refine bl_alloc ?_ _ | refine bl_drew ?_ | refine bl_drewN ?_ _ | (refine bl_set ?_ ?_ _; (focus dsimp only; omega)) | refine bl_call ?_ hb2))); have gA : g7 < w2.heap.size := (World.block_lt_of_cell? _ _ r0); have gB : g8 < w2.heap.size := (World.block_lt_of_cell? _ _ r2); have gC : g9 < w2.heap.size := (World.block_lt_of_cell? _ _ r4))))
    clear HC1 HC2 HC3 HC4
    rcases HX.out with ⟨rfl, rfl⟩ | ⟨rfl, rfl, rfl⟩ | ⟨rfl, rfl, rfl, rfl⟩ | ⟨rfl, rfl, rfl, rfl⟩
    all_goals clear HX
    all_goals go_wp2_with (first | (go_at_call 23; refine (lives_any _).mono ?_; rintro v w6 ⟨rfl, hb6⟩; have ⟨r0, r1, r2, r3, r4, r5⟩ : w6.cell? ⟨g7, 0, none⟩ = some (.int .i64 p1) ∧ w6.cell? ⟨g7, 1, none⟩ = some (.int .i64 q1) ∧ w6.cell? ⟨g8, 0, none⟩ = some (.int .i64 p2) ∧ w6.cell? ⟨g8, 1, none⟩ = some (.int .i64 q2) ∧ w6.cell? ⟨g9, 0, none⟩ = some (.int .i64 p3) ∧ w6.cell? ⟨g9, 1, none⟩ = some (.int .i64 q3) := (by and_intros <;> (with_reducible repeat (first | exact r0 | exact r1 | exact r2 | exact r3 | exact r4 | exact r5 | refine kc_drew ?_ | refine kc_drewN _ ?_ | refine kc_below hb6 ?_ | (refine kc_new ?_ ?_; (focus first | rfl | (simp only [World.size_alloc, World.size_setCell, World.size_drew, size_drewN]; done)); (focus first | rfl | (simp; done))) | (refine kc_set0 ?_ ?_; (focus first | rfl | (simp; done))) | exact ct_of (by assumption) | refine ct_drew ?_ | refine ct_drewN _ ?_ | refine ct_below hb6 ?_ | (refine ct_new ?_ ?_; (focus first | rfl | (simp only [World.size_alloc, World.size_setCell, World.size_drew, size_drewN]; done)); (focus first | rfl | (simp; done))) | refine ct_set _ _ ?_ | refine ct_alloc _ ?_ | (refine kc_set ?_ ?_; (focus first | (intro hx; injection hx; omega) | (simp; done))) | refine kc_alloc _ ?_))); have hB : Below w.heap.size w w6 := (by (with_reducible repeat (first | exact hB | exact Below.refl _ _ | refine bl_alloc ?_ _ | refine bl_drew ?_ | refine bl_drewN ?_ _ | (refine bl_set ?_ ?_ _; (focus dsimp only; omega)) | refine bl_call ?_ hb6))); have gA : g7 < w6.heap.size := (World.block_lt_of_cell? _ _ r0); have gB : g8 < w6.heap.size := (World.block_lt_of_cell? _ _ r2); have gC : g9 < w6.heap.size := (World.block_lt_of_cell? _ _ r4)) | (have hgd := hb8; clear hgd; go_at_call 46; ((with_reducible refine (HA2 _).out.mono ?_); rintro v w9 ⟨rfl, hb9⟩; have ⟨r0, r1, r2, r3, r4, r5, r6, r7⟩ : w9.cell? ⟨g7, 0, none⟩ = some (.int .i64 p1) ∧ w9.cell? ⟨g7, 1, none⟩ = some (.int .i64 q1) ∧ w9.cell? ⟨g8, 0, none⟩ = some (.int .i64 p2) ∧ w9.cell? ⟨g8, 1, none⟩ = some (.int .i64 q2) ∧ w9.cell? ⟨g9, 0, none⟩ = some (.int .i64 p3) ∧ w9.cell? ⟨g9, 1, none⟩ = some (.int .i64 q3) ∧ w9.cell? ⟨w8.heap.size, 0, none⟩ = some (.int .i64 s1) ∧ w9.cell? ⟨w8.heap.size, 1, none⟩ = some (.int .i64 s2) := (by and_intros <;> (with_reducible repeat (first | exact r0 | exact r1 | exact r2 | exact r3 | exact r4 | exact r5 | exact r6 | exact r7 | refine kc_drew ?_ | refine kc_drewN _ ?_ | refine kc_below hb9 ?_ | (refine kc_new ?_ ?_; (focus first | rfl | (simp only [World.size_alloc, World.size_setCell, World.size_drew, size_drewN]; done)); (focus first | rfl | (simp; done))) | (refine kc_set0 ?_ ?_; (focus first | rfl | (simp; done))) | exact ct_of (by assumption) | refine ct_drew ?_ | refine ct_drewN _ ?_ | refine ct_below hb9 ?_ | (refine ct_new ?_ ?_; (focus first | rfl | (simp only [World.size_alloc, World.size_setCell, World.size_drew, size_drewN]; done)); (focus first | rfl | (simp; done))) | refine ct_set _ _ ?_ | refine ct_alloc _ ?_ | (refine kc_set ?_ ?_; (focus first | (intro hx; injection hx; omega) | (simp; done))) | refine kc_alloc _ ?_))); have hB : Below w.heap.size w w9 := (by (with_reducible repeat (first | exact hB | exact Below.refl _ _ | refine bl_alloc ?_ _ | refine bl_drew ?_ | refine bl_drewN ?_ _ | (refine bl_set ?_ ?_ _; (focus dsimp only; omega)) | refine bl_call ?_ hb9))); have gD : w8.heap.size < w9.heap.size := (World.block_lt_of_cell? _ _ r6))) | (go_at_call 46; ((with_reducible refine (HA1 _).out.mono ?_); rintro v w8 ⟨rfl, hb8⟩; have ⟨r0, r1, r2, r3, r4, r5⟩ : w8.cell? ⟨g7, 0, none⟩ = some (.int .i64 p1) ∧ w8.cell? ⟨g7, 1, none⟩ = some (.int .i64 q1) ∧ w8.cell? ⟨g8, 0, none⟩ = some (.int .i64 p2) ∧ w8.cell? ⟨g8, 1, none⟩ = some (.int .i64 q2) ∧ w8.cell? ⟨g9, 0, none⟩ = some (.int .i64 p3) ∧ w8.cell? ⟨g9, 1, none⟩ = some (.int .i64 q3) := (by and_intros <;> (with_reducible repeat (first | exact r0 | exact r1 | exact r2 | exact r3 | exact r4 | exact r5 | refine kc_drew ?_ | refine kc_drewN _ ?_ | refine kc_below hb8 ?_ | (refine kc_new ?_ ?_; (focus first | rfl | (simp only [World.size_alloc, World.size_setCell, World.size_drew, size_drewN]; done)); (focus first | rfl | (simp; done))) | (refine kc_set0 ?_ ?_; (focus first | rfl | (simp; done))) | exact ct_of (by assumption) | refine ct_drew ?_ | refine ct_drewN _ ?_ | refine ct_below hb8 ?_ | (refine ct_new ?_ ?_; (focus first | rfl | (simp only [World.size_alloc, World.size_setCell, World.size_drew, size_drewN]; done)); (focus first | rfl | (simp; done))) | refine ct_set _ _ ?_ | refine ct_alloc _ ?_ | (refine kc_set ?_ ?_; (focus first | (intro hx; injection hx; omega) | (simp; done))) | refine kc_alloc _ ?_))); have hB : Below w.heap.size w w8 := (by (with_reducible repeat (first | exact hB | exact Below.refl _ _ | refine bl_alloc ?_ _ | refine bl_drew ?_ | refine bl_drewN ?_ _ | (refine bl_set ?_ ?_ _; (focus dsimp only; omega)) | refine bl_call ?_ hb8))); have gA : g7 < w8.heap.size := (World.block_lt_of_cell? _ _ r0); have gB : g8 < w8.heap.size := (World.block_lt_of_cell? _ _ r2); have gC : g9 < w8.heap.size := (World.block_lt_of_cell? _ _ r4))) | (go_at_call 45; ((with_reducible refine (HC5 _).out.mono ?_); rintro v w10 ⟨rfl, hb10⟩; have hB : Below w.heap.size w w10 := (by (with_reducible repeat (first | exact hB | exact Below.refl _ _ | refine bl_alloc ?_ _ | refine bl_drew ?_ | refine bl_drewN ?_ _ | (refine bl_set ?_ ?_ _; (focus dsimp only; omega)) | refine bl_call ?_ hb10))))))
    all_goals go_ret
    all_goals exact ⟨by simp, by (with_reducible repeat (first | exact hB | exact Below.refl _ _ | refine bl_alloc ?_ _ | refine bl_drew ?_ | refine bl_drewN ?_ _ | (refine bl_set ?_ ?_ _; (focus dsimp only; omega))))⟩
set_option maxHeartbeats 8000000 in
set_option maxRecDepth 100000 in
theorem gearOrder_c (n1 d1 n2 d2 n3 d3 p1 q1 q2 p3 q3 x1 x2 x3 x4 s1 s2 t1 t2 : Int) (w : World) (nq : ¬ q1 = q2)
    (HT1 : ∀ W, Hid (Calls Try.prog 40 #[.agg #[.int .i64 n1, .int .i64 d1], .int .i64 1000000] W fun v w' => v = .returned (.agg #[.int .i64 p1, .int .i64 q1]) ∧ Below W.heap.size W w'))
    (HT2 : ∀ W, Hid (Calls Try.prog 40 #[.agg #[.int .i64 n2, .int .i64 d2], .int .i64 1000000] W fun v w' => v = .returned (.agg #[.int .i64 p1, .int .i64 q2]) ∧ Below W.heap.size W w'))
    (HT3 : ∀ W, Hid (Calls Try.prog 40 #[.agg #[.int .i64 n3, .int .i64 d3], .int .i64 1000000] W fun v w' => v = .returned (.agg #[.int .i64 p3, .int .i64 q3]) ∧ Below W.heap.size W w'))
    (HC1 : (∀ W, Hid (Calls Try.prog 45 #[.agg #[.int .i64 p1, .int .i64 q1], .agg #[.int .i64 p1, .int .i64 q2]] W fun v w' => v = .returned (.tuple #[.int .i64 x1, .int .i64 0]) ∧ Below W.heap.size W w'))) (HC2 : (∀ W, Hid (Calls Try.prog 45 #[.agg #[.int .i64 p1, .int .i64 q2], .agg #[.int .i64 p1, .int .i64 q1]] W fun v w' => v = .returned (.tuple #[.int .i64 x2, .int .i64 0]) ∧ Below W.heap.size W w'))) (HC3 : (∀ W, Hid (Calls Try.prog 45 #[.agg #[.int .i64 p1, .int .i64 q2], .agg #[.int .i64 p3, .int .i64 q3]] W fun v w' => v = .returned (.tuple #[.int .i64 x3, .int .i64 0]) ∧ Below W.heap.size W w'))) (HC4 : (∀ W, Hid (Calls Try.prog 45 #[.agg #[.int .i64 p1, .int .i64 q1], .agg #[.int .i64 p3, .int .i64 q3]] W fun v w' => v = .returned (.tuple #[.int .i64 x4, .int .i64 0]) ∧ Below W.heap.size W w')))
    (HA1 : (∀ W, Hid (Calls Try.prog 46 #[.agg #[.int .i64 p1, .int .i64 q1], .agg #[.int .i64 p3, .int .i64 q3]] W fun v w' => v = .returned (.tuple #[.agg #[.int .i64 s1, .int .i64 s2], .int .i64 0]) ∧ Below W.heap.size W w'))) (HA2 : (∀ W, Hid (Calls Try.prog 46 #[.agg #[.int .i64 p1, .int .i64 q2], .agg #[.int .i64 p3, .int .i64 q3]] W fun v w' => v = .returned (.tuple #[.agg #[.int .i64 t1, .int .i64 t2], .int .i64 0]) ∧ Below W.heap.size W w'))) (HC5 : (∀ W, Hid (Calls Try.prog 45 #[.agg #[.int .i64 s1, .int .i64 s2], .agg #[.int .i64 t1, .int .i64 t2]] W fun v w' => v = .returned (.tuple #[.int .i64 x1, .int .i64 0]) ∧ Below W.heap.size W w')))
    (HX : Hid ((x1 = 1 ∧ x2 = -1) ∨ (x1 = -1 ∧ x2 = 1 ∧ x3 = 1) ∨ (x1 = -1 ∧ x2 = 1 ∧ x3 = 0 ∧ x4 = -1) ∨ (x1 = -1 ∧ x2 = 1 ∧ x3 = -1 ∧ x4 = -1))) :
    Calls Try.prog 9 #[.agg #[.int .i64 n1, .int .i64 d1], .agg #[.int .i64 n2, .int .i64 d2], .agg #[.int .i64 n3, .int .i64 d3]] w fun v w' => v = .returned (.bool true) ∧ Below w.heap.size w w' := by
  have k0 : wrap64 0 = 0 := by kernel_rfl
  have k1 : wrap64 1 = 1 := by kernel_rfl
  have k2 : wrap64 (-1) = -1 := by kernel_rfl
  go_enter Try.func9, Try.ntmps9
  go_upto_region 1 with fail
  go_cut [7, 8, 9] (fun s t o wx => ∃ g7 g8 g9, s = .pointer (some ⟨g7, 0, none⟩) ∧ t = .pointer (some ⟨g8, 0, none⟩) ∧ o = .pointer (some ⟨g9, 0, none⟩) ∧ ((wx.cell? ⟨g7, 0, none⟩ = some (.int .i64 p1) ∧ wx.cell? ⟨g7, 1, none⟩ = some (.int .i64 q1)) ∧ (wx.cell? ⟨g8, 0, none⟩ = some (.int .i64 p1) ∧ wx.cell? ⟨g8, 1, none⟩ = some (.int .i64 q2)) ∧ (wx.cell? ⟨g9, 0, none⟩ = some (.int .i64 p3) ∧ wx.cell? ⟨g9, 1, none⟩ = some (.int .i64 q3))) ∧ Below w.heap.size w wx)
  case first =>
    refine wp_region_told [0, 1, 2, 3, 4, 5, 6, 7, 8] [[], [0], [], [1, 2], [], [3, 4], [], [], []] (RTame (w.heap.size + 1 + 1 + 1) n1 d1 n2 d2 n3 d3 p1 q1 p1 q2 p3 q3) (by kernel_rfl) (by kernel_rfl) (by kernel_rfl) (by decide) (by decide) (by kernel_rfl) ?_ ?_ ?_
    · intro i hi v lo hi' W W' h hb
      simp only [List.mem_cons, List.not_mem_nil, or_false] at hi
      rcases hi with rfl | rfl | rfl | rfl | rfl | rfl | rfl | rfl | rfl
      · exact h
      · exact h
      · exact h
      · exact h
      · exact h
      · exact h
      · (obtain ⟨g, h1, h2, h3, h4⟩ := h; exact ⟨g, h1, h2, h3, fun i hi => kc_below hb (h4.out.1 i hi), fun i hi => kf_below hb (World.block_lt_of_cell? _ _ (h4.out.1 i hi)) (h4.out.2 i hi)⟩)
      · (obtain ⟨g, h1, h2, h3, h4⟩ := h; exact ⟨g, h1, h2, h3, fun i hi => kc_below hb (h4.out.1 i hi), fun i hi => kf_below hb (World.block_lt_of_cell? _ _ (h4.out.1 i hi)) (h4.out.2 i hi)⟩)
      · (obtain ⟨g, h1, h2, h3, h4⟩ := h; exact ⟨g, h1, h2, h3, fun i hi => kc_below hb (h4.out.1 i hi), fun i hi => kf_below hb (World.block_lt_of_cell? _ _ (h4.out.1 i hi)) (h4.out.2 i hi)⟩)
    · intro j hj o tl ho W val lo hi hb hv
      simp only [List.mem_cons, List.not_mem_nil, or_false] at hj
      rcases hj with rfl | rfl | rfl | rfl | rfl | rfl | rfl | rfl | rfl
      · injection ho with h1 h2
        subst h1
        clear h2
        refine givesR_of (by rfl) (fun K hK => ?_) (by simp)
        simp only [putAll, dstOf, List.getD_cons_zero, List.getD_cons_succ, List.getElem?_toArray, List.getElem?_cons_zero, List.getElem?_cons_succ, Option.bind_some, Act.put, List.setIfInBounds_toArray, List.set_cons_zero, List.set_cons_succ] at hK ⊢
        (have ⟨x0, x1⟩ : W.cell? ⟨w.heap.size, 0, none⟩ = some (.int .i64 n1) ∧ W.cell? ⟨w.heap.size, 1, none⟩ = some (.int .i64 d1) := (by and_intros <;> (with_reducible repeat (first | refine kc_drew ?_ | refine kc_drewN _ ?_ | refine kc_below hb ?_ | (refine kc_new ?_ ?_; (focus first | rfl | (simp only [World.size_alloc, World.size_setCell, World.size_drew, size_drewN]; done)); (focus first | rfl | (simp; done))) | (refine kc_set0 ?_ ?_; (focus first | rfl | (simp; done))) | exact ct_of (by assumption) | refine ct_drew ?_ | refine ct_drewN _ ?_ | refine ct_below hb ?_ | (refine ct_new ?_ ?_; (focus first | rfl | (simp only [World.size_alloc, World.size_setCell, World.size_drew, size_drewN]; done)); (focus first | rfl | (simp; done))) | refine ct_set _ _ ?_ | refine ct_alloc _ ?_ | (refine kc_set ?_ ?_; (focus first | (intro hx; injection hx; omega) | (simp; done))) | refine kc_alloc _ ?_))); go_simp; refine hK.out _ _ (Below.refl _ _) ?_; exact rfl)
      · injection ho with h1 h2
        subst h1
        clear h2
        have e0 : val 0 = .agg #[.int .i64 n1, .int .i64 d1] := hv 0 (by simp)
        refine givesR_of (by rfl) (fun K hK => ?_) (by simp)
        simp only [putAll, dstOf, List.getD_cons_zero, List.getD_cons_succ, List.getElem?_toArray, List.getElem?_cons_zero, List.getElem?_cons_succ, Option.bind_some, Act.put, List.setIfInBounds_toArray, List.set_cons_zero, List.set_cons_succ, e0] at hK ⊢
        (go_simp; go_at_call 40; ((with_reducible refine (HT1 _).out.mono ?_); rintro v w2 ⟨rfl, hb2⟩; dsimp only; refine hK.out _ _ hb2 ?_; exact rfl))
      · injection ho with h1 h2
        subst h1
        clear h2
        refine givesR_of (by rfl) (fun K hK => ?_) (by simp)
        simp only [putAll, dstOf, List.getD_cons_zero, List.getD_cons_succ, List.getElem?_toArray, List.getElem?_cons_zero, List.getElem?_cons_succ, Option.bind_some, Act.put, List.setIfInBounds_toArray, List.set_cons_zero, List.set_cons_succ] at hK ⊢
        (have ⟨x0, x1⟩ : W.cell? ⟨w.heap.size + 1, 0, none⟩ = some (.int .i64 n2) ∧ W.cell? ⟨w.heap.size + 1, 1, none⟩ = some (.int .i64 d2) := (by and_intros <;> (with_reducible repeat (first | refine kc_drew ?_ | refine kc_drewN _ ?_ | refine kc_below hb ?_ | (refine kc_new ?_ ?_; (focus first | rfl | (simp only [World.size_alloc, World.size_setCell, World.size_drew, size_drewN]; done)); (focus first | rfl | (simp; done))) | (refine kc_set0 ?_ ?_; (focus first | rfl | (simp; done))) | exact ct_of (by assumption) | refine ct_drew ?_ | refine ct_drewN _ ?_ | refine ct_below hb ?_ | (refine ct_new ?_ ?_; (focus first | rfl | (simp only [World.size_alloc, World.size_setCell, World.size_drew, size_drewN]; done)); (focus first | rfl | (simp; done))) | refine ct_set _ _ ?_ | refine ct_alloc _ ?_ | (refine kc_set ?_ ?_; (focus first | (intro hx; injection hx; omega) | (simp; done))) | refine kc_alloc _ ?_))); go_simp; refine hK.out _ _ (Below.refl _ _) ?_; exact rfl)
      · injection ho with h1 h2
        subst h1
        clear h2
        have e1 : val 1 = .agg #[.int .i64 p1, .int .i64 q1] := hv 1 (by simp)
        have e2 : val 2 = .agg #[.int .i64 n2, .int .i64 d2] := hv 2 (by simp)
        refine givesR_of (by rfl) (fun K hK => ?_) (by simp)
        simp only [putAll, dstOf, List.getD_cons_zero, List.getD_cons_succ, List.getElem?_toArray, List.getElem?_cons_zero, List.getElem?_cons_succ, Option.bind_some, Act.put, List.setIfInBounds_toArray, List.set_cons_zero, List.set_cons_succ, e1, e2] at hK ⊢
        (go_simp; go_at_call 40; ((with_reducible refine (HT2 _).out.mono ?_); rintro v w2 ⟨rfl, hb2⟩; dsimp only; refine hK.out _ _ hb2 ?_; exact rfl))
      · injection ho with h1 h2
        subst h1
        clear h2
        refine givesR_of (by rfl) (fun K hK => ?_) (by simp)
        simp only [putAll, dstOf, List.getD_cons_zero, List.getD_cons_succ, List.getElem?_toArray, List.getElem?_cons_zero, List.getElem?_cons_succ, Option.bind_some, Act.put, List.setIfInBounds_toArray, List.set_cons_zero, List.set_cons_succ] at hK ⊢
        (have ⟨x0, x1⟩ : W.cell? ⟨w.heap.size + 1 + 1, 0, none⟩ = some (.int .i64 n3) ∧ W.cell? ⟨w.heap.size + 1 + 1, 1, none⟩ = some (.int .i64 d3) := (by and_intros <;> (with_reducible repeat (first | refine kc_drew ?_ | refine kc_drewN _ ?_ | refine kc_below hb ?_ | (refine kc_new ?_ ?_; (focus first | rfl | (simp only [World.size_alloc, World.size_setCell, World.size_drew, size_drewN]; done)); (focus first | rfl | (simp; done))) | (refine kc_set0 ?_ ?_; (focus first | rfl | (simp; done))) | exact ct_of (by assumption) | refine ct_drew ?_ | refine ct_drewN _ ?_ | refine ct_below hb ?_ | (refine ct_new ?_ ?_; (focus first | rfl | (simp only [World.size_alloc, World.size_setCell, World.size_drew, size_drewN]; done)); (focus first | rfl | (simp; done))) | refine ct_set _ _ ?_ | refine ct_alloc _ ?_ | (refine kc_set ?_ ?_; (focus first | (intro hx; injection hx; omega) | (simp; done))) | refine kc_alloc _ ?_))); go_simp; refine hK.out _ _ (Below.refl _ _) ?_; exact rfl)
      · injection ho with h1 h2
        subst h1
        clear h2
        have e3 : val 3 = .agg #[.int .i64 p1, .int .i64 q2] := hv 3 (by simp)
        have e4 : val 4 = .agg #[.int .i64 n3, .int .i64 d3] := hv 4 (by simp)
        refine givesR_of (by rfl) (fun K hK => ?_) (by simp)
        simp only [putAll, dstOf, List.getD_cons_zero, List.getD_cons_succ, List.getElem?_toArray, List.getElem?_cons_zero, List.getElem?_cons_succ, Option.bind_some, Act.put, List.setIfInBounds_toArray, List.set_cons_zero, List.set_cons_succ, e3, e4] at hK ⊢
        (go_simp; go_at_call 40; ((with_reducible refine (HT3 _).out.mono ?_); rintro v w2 ⟨rfl, hb2⟩; dsimp only; refine hK.out _ _ hb2 ?_; exact rfl))
      · injection ho with h1 h2
        subst h1
        clear h2
        refine givesR_of (by rfl) (fun K hK => ?_) (by simp)
        simp only [putAll, dstOf, List.getD_cons_zero, List.getD_cons_succ, List.getElem?_toArray, List.getElem?_cons_zero, List.getElem?_cons_succ, Option.bind_some, Act.put, List.setIfInBounds_toArray, List.set_cons_zero, List.set_cons_succ] at hK ⊢
        (go_simp; refine hK.out _ _ (by (with_reducible repeat (first | exact Below.refl _ _ | refine bl_alloc ?_ _ | refine bl_drew ?_ | refine bl_drewN ?_ _ | (refine bl_set ?_ ?_ _; (focus dsimp only; omega))))) ?_; exact ⟨_, rfl, ⟨by have := hb.size; (simp only [World.size_alloc] at this); omega, Nat.le_refl _⟩, by simp, fun i hi => (by rcases (show i = 0 ∨ i = 1 by omega) with rfl | rfl <;> exact kc_new rfl rfl), fun i hi => kf_new rfl _⟩)
      · injection ho with h1 h2
        subst h1
        clear h2
        refine givesR_of (by rfl) (fun K hK => ?_) (by simp)
        simp only [putAll, dstOf, List.getD_cons_zero, List.getD_cons_succ, List.getElem?_toArray, List.getElem?_cons_zero, List.getElem?_cons_succ, Option.bind_some, Act.put, List.setIfInBounds_toArray, List.set_cons_zero, List.set_cons_succ] at hK ⊢
        (go_simp; refine hK.out _ _ (by (with_reducible repeat (first | exact Below.refl _ _ | refine bl_alloc ?_ _ | refine bl_drew ?_ | refine bl_drewN ?_ _ | (refine bl_set ?_ ?_ _; (focus dsimp only; omega))))) ?_; exact ⟨_, rfl, ⟨by have := hb.size; (simp only [World.size_alloc] at this); omega, Nat.le_refl _⟩, by simp, fun i hi => (by rcases (show i = 0 ∨ i = 1 by omega) with rfl | rfl <;> exact kc_new rfl rfl), fun i hi => kf_new rfl _⟩)
      · injection ho with h1 h2
        subst h1
        clear h2
        refine givesR_of (by rfl) (fun K hK => ?_) (by simp)
        simp only [putAll, dstOf, List.getD_cons_zero, List.getD_cons_succ, List.getElem?_toArray, List.getElem?_cons_zero, List.getElem?_cons_succ, Option.bind_some, Act.put, List.setIfInBounds_toArray, List.set_cons_zero, List.set_cons_succ] at hK ⊢
        (go_simp; refine hK.out _ _ (by (with_reducible repeat (first | exact Below.refl _ _ | refine bl_alloc ?_ _ | refine bl_drew ?_ | refine bl_drewN ?_ _ | (refine bl_set ?_ ?_ _; (focus dsimp only; omega))))) ?_; exact ⟨_, rfl, ⟨by have := hb.size; (simp only [World.size_alloc] at this); omega, Nat.le_refl _⟩, by simp, fun i hi => (by rcases (show i = 0 ∨ i = 1 by omega) with rfl | rfl <;> exact kc_new rfl rfl), fun i hi => kf_new rfl _⟩)
    · intro W val lo hi hb hv hd
      have e0 : val 0 = .agg #[.int .i64 n1, .int .i64 d1] := hv 0 (by simp)
      have e1 : val 1 = .agg #[.int .i64 p1, .int .i64 q1] := hv 1 (by simp)
      have e2 : val 2 = .agg #[.int .i64 n2, .int .i64 d2] := hv 2 (by simp)
      have e3 : val 3 = .agg #[.int .i64 p1, .int .i64 q2] := hv 3 (by simp)
      have e4 : val 4 = .agg #[.int .i64 n3, .int .i64 d3] := hv 4 (by simp)
      have e5 : val 5 = .agg #[.int .i64 p3, .int .i64 q3] := hv 5 (by simp)
      obtain ⟨g7, e6, hg7, hg7', Hg7⟩ := hv 6 (by simp)
      obtain ⟨g8, e7, hg8, hg8', Hg8⟩ := hv 7 (by simp)
      obtain ⟨g9, e8, hg9, hg9', Hg9⟩ := hv 8 (by simp)
      have d67 := hd 6 (by simp) 7 (by simp) (by decide)
      have d68 := hd 6 (by simp) 8 (by simp) (by decide)
      have d78 := hd 7 (by simp) 8 (by simp) (by decide)
      have n78 : g7 ≠ g8 := by omega
      have n87 : g8 ≠ g7 := by omega
      have n79 : g7 ≠ g9 := by omega
      have n97 : g9 ≠ g7 := by omega
      have n89 : g8 ≠ g9 := by omega
      have n98 : g9 ≠ g8 := by omega
      have y0 := Hg7.out.1 0 (by omega)
      have y1 := Hg7.out.1 1 (by omega)
      have y2 := Hg8.out.1 0 (by omega)
      have y3 := Hg8.out.1 1 (by omega)
      have y4 := Hg9.out.1 0 (by omega)
      have y5 := Hg9.out.1 1 (by omega)
      have f0 := Hg7.out.2 0 (by omega)
      have f1 := Hg7.out.2 1 (by omega)
      have f2 := Hg8.out.2 0 (by omega)
      have f3 := Hg8.out.2 1 (by omega)
      have f4 := Hg9.out.2 0 (by omega)
      have f5 := Hg9.out.2 1 (by omega)
      have gzg7 := World.block_lt_of_cell? _ _ y0
      have gzg8 := World.block_lt_of_cell? _ _ y2
      have gzg9 := World.block_lt_of_cell? _ _ y4
      simp only at gzg7 gzg8 gzg9
      have hBW : Below w.heap.size w W := (by (with_reducible repeat (first | exact Below.refl _ _ | refine bl_alloc ?_ _ | refine bl_drew ?_ | refine bl_drewN ?_ _ | (refine bl_set ?_ ?_ _; (focus dsimp only; omega)) | refine bl_call ?_ hb)))
      obtain ⟨gbg7, _⟩ := hg7
      obtain ⟨gbg8, _⟩ := hg8
      obtain ⟨gbg9, _⟩ := hg9
      clear hv hd Hg7 Hg8 Hg9
      simp only [putAll, dstOf, List.getD_cons_zero, List.getD_cons_succ, List.getElem?_toArray, List.getElem?_cons_zero, List.getElem?_cons_succ, Option.bind_some, Act.put, List.setIfInBounds_toArray, List.set_cons_zero, List.set_cons_succ, e0, e1, e2, e3, e4, e5, e6, e7, e8]
      refine wpAnyH_ready (rs := [9]) (by kernel_rfl) (by simp) ?_
      refine consH 9 rfl (fun K hK => ?_) ?_
      · go_simp
        refine hK.out _ _ ?_ (fun hHeld => ?_)
        · trivial
        clear hK K
        (try simp only [Act.put, List.setIfInBounds_toArray, List.set_cons_zero, List.set_cons_succ])
        refine wpAnyH_ready (rs := [10]) (by kernel_rfl) (by simp) ?_
        refine consH 10 rfl (fun K hK => ?_) ?_
        · go_simp
          refine hK.out _ _ ?_ (fun hHeld => ?_)
          · trivial
          clear hK K
          (try simp only [Act.put, List.setIfInBounds_toArray, List.set_cons_zero, List.set_cons_succ])
          refine wpAnyH_ready (rs := [11]) (by kernel_rfl) (by simp) ?_
          refine consH 11 rfl (fun K hK => ?_) ?_
          · go_simp
            refine hK.out _ _ ?_ (fun hHeld => ?_)
            · trivial
            clear hK K
            (try simp only [Act.put, List.setIfInBounds_toArray, List.set_cons_zero, List.set_cons_succ])
            refine wpAnyH_done (by kernel_rfl) ?_ _
            skip
            go_wp2_with fail
            go_meet
            refine ⟨g7, g8, g9, rfl, rfl, rfl, ⟨⟨?_, ?_⟩, ⟨?_, ?_⟩, ⟨?_, ?_⟩⟩, ?_⟩
            all_goals first | ((with_reducible repeat (first | exact y0 | exact y1 | exact y2 | exact y3 | exact y4 | exact y5 | refine kc_drew ?_ | refine kc_drewN _ ?_ | (refine kc_new ?_ ?_; (focus first | rfl | (simp only [World.size_alloc, World.size_setCell, World.size_drew, size_drewN]; done)); (focus first | rfl | (simp; done))) | (refine kc_set0 ?_ ?_; (focus first | rfl | (simp; done))) | exact ct_of (by assumption) | refine ct_drew ?_ | refine ct_drewN _ ?_ | (refine ct_new ?_ ?_; (focus first | rfl | (simp only [World.size_alloc, World.size_setCell, World.size_drew, size_drewN]; done)); (focus first | rfl | (simp; done))) | refine ct_set _ _ ?_ | refine ct_alloc _ ?_ | (refine kc_set ?_ ?_; (focus first | (intro hx; injection hx; omega) | (simp; done))) | refine kc_alloc _ ?_)); done) | ((with_reducible repeat (first | exact hBW | exact Below.refl _ _ | refine bl_alloc ?_ _ | refine bl_drew ?_ | refine bl_drewN ?_ _ | (refine bl_set ?_ ?_ _; (focus dsimp only; omega)))); done)
          exact AllReadyH.nil
        exact AllReadyH.nil
      exact AllReadyH.nil
  case rest =>
    obtain ⟨g7, g8, g9, rfl, rfl, rfl, ⟨⟨r0, r1⟩, ⟨r2, r3⟩, r4, r5⟩, hB⟩ := hcut
    have gA : g7 < wc.heap.size := World.block_lt_of_cell? _ _ r0
    have gB : g8 < wc.heap.size := World.block_lt_of_cell? _ _ r2
    have gC : g9 < wc.heap.size := World.block_lt_of_cell? _ _ r4
    clear HT1 HT2 HT3
    go_upto_region 6 with (first | (have hgd := hb4; clear hgd; go_at_call 45; ((with_reducible refine (HC4 _).out.mono ?_); rintro v w5 ⟨rfl, hb5⟩; have ⟨r0, r1, r2, r3, r4, r5⟩ : w5.cell? ⟨g7, 0, none⟩ = some (.int .i64 p1) ∧ w5.cell? ⟨g7, 1, none⟩ = some (.int .i64 q1) ∧ w5.cell? ⟨g8, 0, none⟩ = some (.int .i64 p1) ∧ w5.cell? ⟨g8, 1, none⟩ = some (.int .i64 q2) ∧ w5.cell? ⟨g9, 0, none⟩ = some (.int .i64 p3) ∧ w5.cell? ⟨g9, 1, none⟩ = some (.int .i64 q3) := (by and_intros <;> (with_reducible repeat (first | exact r0 | exact r1 | exact r2 | exact r3 | exact r4 | exact r5 | refine kc_drew ?_ | refine kc_drewN _ ?_ | refine kc_below hb5 ?_ | (refine kc_new ?_ ?_; (focus first | rfl | (simp only [World.size_alloc, World.size_setCell, World.size_drew, size_drewN]; done)); (focus first | rfl | (simp; done))) | (refine kc_set0 ?_ ?_; (focus first | rfl | (simp; done))) | exact ct_of (by assumption) | refine ct_drew ?_ | refine ct_drewN _ ?_ | refine ct_below hb5 ?_ | (refine ct_new ?_ ?_; (focus first | rfl | (simp only [World.size_alloc, World.size_setCell, World.size_drew, size_drewN]; done)); (focus first | rfl | (simp; done))) | refine ct_set _ _ ?_ | refine ct_alloc _ ?_ | (refine kc_set ?_ ?_; (focus first | (intro hx; injection hx; omega) | (simp; done))) | refine kc_alloc _ ?_))); have hB : Below w.heap.size w w5 := (by (with_reducible repeat (first | exact hB | exact Below.refl _ _ | refine bl_alloc ?_ _ | refine bl_drew ?_ | refine bl_drewN ?_ _ | (refine bl_set ?_ ?_ _; (focus dsimp only; omega)) | refine bl_call ?_ hb5))); have gA : g7 < w5.heap.size := (World.block_lt_of_cell? _ _ r0); have gB : g8 < w5.heap.size := (World.block_lt_of_cell? _ _ r2); have gC : g9 < w5.heap.size := (World.block_lt_of_cell? _ _ r4))) | (have hgd := hb3; clear hgd; go_at_call 45; ((with_reducible refine (HC3 _).out.mono ?_); rintro v w4 ⟨rfl, hb4⟩; have ⟨r0, r1, r2, r3, r4, r5⟩ : w4.cell? ⟨g7, 0, none⟩ = some (.int .i64 p1) ∧ w4.cell? ⟨g7, 1, none⟩ = some (.int .i64 q1) ∧ w4.cell? ⟨g8, 0, none⟩ = some (.int .i64 p1) ∧ w4.cell? ⟨g8, 1, none⟩ = some (.int .i64 q2) ∧ w4.cell? ⟨g9, 0, none⟩ = some (.int .i64 p3) ∧ w4.cell? ⟨g9, 1, none⟩ = some (.int .i64 q3) := (by and_intros <;> (with_reducible repeat (first | exact r0 | exact r1 | exact r2 | exact r3 | exact r4 | exact r5 | refine kc_drew ?_ | refine kc_drewN _ ?_ | refine kc_below hb4 ?_ | (refine kc_new ?_ ?_; (focus first | rfl | (simp only [World.size_alloc, World.size_setCell, World.size_drew, size_drewN]; done)); (focus first | rfl | (simp; done))) | (refine kc_set0 ?_ ?_; (focus first | rfl | (simp; done))) | exact ct_of (by assumption) | refine ct_drew ?_ | refine ct_drewN _ ?_ | refine ct_below hb4 ?_ | (refine ct_new ?_ ?_; (focus first | rfl | (simp only [World.size_alloc, World.size_setCell, World.size_drew, size_drewN]; done)); (focus first | rfl | (simp; done))) | refine ct_set _ _ ?_ | refine ct_alloc _ ?_ | (refine kc_set ?_ ?_; (focus first | (intro hx; injection hx; omega) | (simp; done))) | refine kc_alloc _ ?_))); have hB : Below w.heap.size w w4 := (by (with_reducible repeat (first | exact hB | exact Below.refl _ _ | refine bl_alloc ?_ _ | refine bl_drew ?_ | refine bl_drewN ?_ _ | (refine bl_set ?_ ?_ _; (focus dsimp only; omega)) | refine bl_call ?_ hb4))); have gA : g7 < w4.heap.size := (World.block_lt_of_cell? _ _ r0); have gB : g8 < w4.heap.size := (World.block_lt_of_cell? _ _ r2); have gC : g9 < w4.heap.size := (World.block_lt_of_cell? _ _ r4))) | (have hgd := hb2; clear hgd; go_at_call 45; ((with_reducible refine (HC2 _).out.mono ?_); rintro v w3 ⟨rfl, hb3⟩; have ⟨r0, r1, r2, r3, r4, r5⟩ : w3.cell? ⟨g7, 0, none⟩ = some (.int .i64 p1) ∧ w3.cell? ⟨g7, 1, none⟩ = some (.int .i64 q1) ∧ w3.cell? ⟨g8, 0, none⟩ = some (.int .i64 p1) ∧ w3.cell? ⟨g8, 1, none⟩ = some (.int .i64 q2) ∧ w3.cell? ⟨g9, 0, none⟩ = some (.int .i64 p3) ∧ w3.cell? ⟨g9, 1, none⟩ = some (.int .i64 q3) := (by and_intros <;> (with_reducible repeat (first | exact r0 | exact r1 | exact r2 | exact r3 | exact r4 | exact r5 | refine kc_drew ?_ | refine kc_drewN _ ?_ | refine kc_below hb3 ?_ | (refine kc_new ?_ ?_; (focus first | rfl | (simp only [World.size_alloc, World.size_setCell, World.size_drew, size_drewN]; done)); (focus first | rfl | (simp; done))) | (refine kc_set0 ?_ ?_; (focus first | rfl | (simp; done))) | exact ct_of (by assumption) | refine ct_drew ?_ | refine ct_drewN _ ?_ | refine ct_below hb3 ?_ | (refine ct_new ?_ ?_; (focus first | rfl | (simp only [World.size_alloc, World.size_setCell, World.size_drew, size_drewN]; done)); (focus first | rfl | (simp; done))) | refine ct_set _ _ ?_ | refine ct_alloc _ ?_ | (refine kc_set ?_ ?_; (focus first | (intro hx; injection hx; omega) | (simp; done))) | refine kc_alloc _ ?_))); have hB : Below w.heap.size w w3 := (by (with_reducible repeat (first | exact hB | exact Below.refl _ _ | refine bl_alloc ?_ _ | refine bl_drew ?_ | refine bl_drewN ?_ _ | (refine bl_set ?_ ?_ _; (focus dsimp only; omega)) | refine bl_call ?_ hb3))); have gA : g7 < w3.heap.size := (World.block_lt_of_cell? _ _ r0); have gB : g8 < w3.heap.size := (World.block_lt_of_cell? _ _ r2); have gC : g9 < w3.heap.size := (World.block_lt_of_cell? _ _ r4))) | (go_at_call 45; ((with_reducible refine (HC1 _).out.mono ?_); rintro v w2 ⟨rfl, hb2⟩; have ⟨r0, r1, r2, r3, r4, r5⟩ : w2.cell? ⟨g7, 0, none⟩ = some (.int .i64 p1) ∧ w2.cell? ⟨g7, 1, none⟩ = some (.int .i64 q1) ∧ w2.cell? ⟨g8, 0, none⟩ = some (.int .i64 p1) ∧ w2.cell? ⟨g8, 1, none⟩ = some (.int .i64 q2) ∧ w2.cell? ⟨g9, 0, none⟩ = some (.int .i64 p3) ∧ w2.cell? ⟨g9, 1, none⟩ = some (.int .i64 q3) := (by and_intros <;> (with_reducible repeat (first | exact r0 | exact r1 | exact r2 | exact r3 | exact r4 | exact r5 | refine kc_drew ?_ | refine kc_drewN _ ?_ | refine kc_below hb2 ?_ | (refine kc_new ?_ ?_; (focus first | rfl | (simp only [World.size_alloc, World.size_setCell, World.size_drew, size_drewN]; done)); (focus first | rfl | (simp; done))) | (refine kc_set0 ?_ ?_; (focus first | rfl | (simp; done))) | exact ct_of (by assumption) | refine ct_drew ?_ | refine ct_drewN _ ?_ | refine ct_below hb2 ?_ | (refine ct_new ?_ ?_; (focus first | rfl | (simp only [World.size_alloc, World.size_setCell, World.size_drew, size_drewN]; done)); (focus first | rfl | (simp; done))) | refine ct_set _ _ ?_ | refine ct_alloc _ ?_ | (refine kc_set ?_ ?_; (focus first | (intro hx; injection hx; omega) | (simp; done))) | refine kc_alloc _ ?_))); have hB : Below w.heap.size w w2 := (by (with_reducible repeat (first | exact hB | exact Below.refl _ _ | refine bl_alloc ?_ _ | refine bl_drew ?_ | refine bl_drewN ?_ _ | (refine bl_set ?_ ?_ _; (focus dsimp only; omega)) | refine bl_call ?_ hb2))); have gA : g7 < w2.heap.size := (World.block_lt_of_cell? _ _ r0); have gB : g8 < w2.heap.size := (World.block_lt_of_cell? _ _ r2); have gC : g9 < w2.heap.size := (World.block_lt_of_cell? _ _ r4))))
    clear HC1 HC2 HC3 HC4
    rcases HX.out with ⟨rfl, rfl⟩ | ⟨rfl, rfl, rfl⟩ | ⟨rfl, rfl, rfl, rfl⟩ | ⟨rfl, rfl, rfl, rfl⟩
    all_goals clear HX
    all_goals go_wp2_with (first | (go_at_call 23; refine (lives_any _).mono ?_; rintro v w6 ⟨rfl, hb6⟩; have ⟨r0, r1, r2, r3, r4, r5⟩ : w6.cell? ⟨g7, 0, none⟩ = some (.int .i64 p1) ∧ w6.cell? ⟨g7, 1, none⟩ = some (.int .i64 q1) ∧ w6.cell? ⟨g8, 0, none⟩ = some (.int .i64 p1) ∧ w6.cell? ⟨g8, 1, none⟩ = some (.int .i64 q2) ∧ w6.cell? ⟨g9, 0, none⟩ = some (.int .i64 p3) ∧ w6.cell? ⟨g9, 1, none⟩ = some (.int .i64 q3) := (by and_intros <;> (with_reducible repeat (first | exact r0 | exact r1 | exact r2 | exact r3 | exact r4 | exact r5 | refine kc_drew ?_ | refine kc_drewN _ ?_ | refine kc_below hb6 ?_ | (refine kc_new ?_ ?_; (focus first | rfl | (simp only [World.size_alloc, World.size_setCell, World.size_drew, size_drewN]; done)); (focus first | rfl | (simp; done))) | (refine kc_set0 ?_ ?_; (focus first | rfl | (simp; done))) | exact ct_of (by assumption) | refine ct_drew ?_ | refine ct_drewN _ ?_ | refine ct_below hb6 ?_ | (refine ct_new ?_ ?_; (focus first | rfl | (simp only [World.size_alloc, World.size_setCell, World.size_drew, size_drewN]; done)); (focus first | rfl | (simp; done))) | refine ct_set _ _ ?_ | refine ct_alloc _ ?_ | (refine kc_set ?_ ?_; (focus first | (intro hx; injection hx; omega) | (simp; done))) | refine kc_alloc _ ?_))); have hB : Below w.heap.size w w6 := (by (with_reducible repeat (first | exact hB | exact Below.refl _ _ | refine bl_alloc ?_ _ | refine bl_drew ?_ | refine bl_drewN ?_ _ | (refine bl_set ?_ ?_ _; (focus dsimp only; omega)) | refine bl_call ?_ hb6))); have gA : g7 < w6.heap.size := (World.block_lt_of_cell? _ _ r0); have gB : g8 < w6.heap.size := (World.block_lt_of_cell? _ _ r2); have gC : g9 < w6.heap.size := (World.block_lt_of_cell? _ _ r4)) | (have hgd := hb8; clear hgd; go_at_call 46; ((with_reducible refine (HA2 _).out.mono ?_); rintro v w9 ⟨rfl, hb9⟩; have ⟨r0, r1, r2, r3, r4, r5, r6, r7⟩ : w9.cell? ⟨g7, 0, none⟩ = some (.int .i64 p1) ∧ w9.cell? ⟨g7, 1, none⟩ = some (.int .i64 q1) ∧ w9.cell? ⟨g8, 0, none⟩ = some (.int .i64 p1) ∧ w9.cell? ⟨g8, 1, none⟩ = some (.int .i64 q2) ∧ w9.cell? ⟨g9, 0, none⟩ = some (.int .i64 p3) ∧ w9.cell? ⟨g9, 1, none⟩ = some (.int .i64 q3) ∧ w9.cell? ⟨w8.heap.size, 0, none⟩ = some (.int .i64 s1) ∧ w9.cell? ⟨w8.heap.size, 1, none⟩ = some (.int .i64 s2) := (by and_intros <;> (with_reducible repeat (first | exact r0 | exact r1 | exact r2 | exact r3 | exact r4 | exact r5 | exact r6 | exact r7 | refine kc_drew ?_ | refine kc_drewN _ ?_ | refine kc_below hb9 ?_ | (refine kc_new ?_ ?_; (focus first | rfl | (simp only [World.size_alloc, World.size_setCell, World.size_drew, size_drewN]; done)); (focus first | rfl | (simp; done))) | (refine kc_set0 ?_ ?_; (focus first | rfl | (simp; done))) | exact ct_of (by assumption) | refine ct_drew ?_ | refine ct_drewN _ ?_ | refine ct_below hb9 ?_ | (refine ct_new ?_ ?_; (focus first | rfl | (simp only [World.size_alloc, World.size_setCell, World.size_drew, size_drewN]; done)); (focus first | rfl | (simp; done))) | refine ct_set _ _ ?_ | refine ct_alloc _ ?_ | (refine kc_set ?_ ?_; (focus first | (intro hx; injection hx; omega) | (simp; done))) | refine kc_alloc _ ?_))); have hB : Below w.heap.size w w9 := (by (with_reducible repeat (first | exact hB | exact Below.refl _ _ | refine bl_alloc ?_ _ | refine bl_drew ?_ | refine bl_drewN ?_ _ | (refine bl_set ?_ ?_ _; (focus dsimp only; omega)) | refine bl_call ?_ hb9))); have gD : w8.heap.size < w9.heap.size := (World.block_lt_of_cell? _ _ r6))) | (go_at_call 46; ((with_reducible refine (HA1 _).out.mono ?_); rintro v w8 ⟨rfl, hb8⟩; have ⟨r0, r1, r2, r3, r4, r5⟩ : w8.cell? ⟨g7, 0, none⟩ = some (.int .i64 p1) ∧ w8.cell? ⟨g7, 1, none⟩ = some (.int .i64 q1) ∧ w8.cell? ⟨g8, 0, none⟩ = some (.int .i64 p1) ∧ w8.cell? ⟨g8, 1, none⟩ = some (.int .i64 q2) ∧ w8.cell? ⟨g9, 0, none⟩ = some (.int .i64 p3) ∧ w8.cell? ⟨g9, 1, none⟩ = some (.int .i64 q3) := (by and_intros <;> (with_reducible repeat (first | exact r0 | exact r1 | exact r2 | exact r3 | exact r4 | exact r5 | refine kc_drew ?_ | refine kc_drewN _ ?_ | refine kc_below hb8 ?_ | (refine kc_new ?_ ?_; (focus first | rfl | (simp only [World.size_alloc, World.size_setCell, World.size_drew, size_drewN]; done)); (focus first | rfl | (simp; done))) | (refine kc_set0 ?_ ?_; (focus first | rfl | (simp; done))) | exact ct_of (by assumption) | refine ct_drew ?_ | refine ct_drewN _ ?_ | refine ct_below hb8 ?_ | (refine ct_new ?_ ?_; (focus first | rfl | (simp only [World.size_alloc, World.size_setCell, World.size_drew, size_drewN]; done)); (focus first | rfl | (simp; done))) | refine ct_set _ _ ?_ | refine ct_alloc _ ?_ | (refine kc_set ?_ ?_; (focus first | (intro hx; injection hx; omega) | (simp; done))) | refine kc_alloc _ ?_))); have hB : Below w.heap.size w w8 := (by (with_reducible repeat (first | exact hB | exact Below.refl _ _ | refine bl_alloc ?_ _ | refine bl_drew ?_ | refine bl_drewN ?_ _ | (refine bl_set ?_ ?_ _; (focus dsimp only; omega)) | refine bl_call ?_ hb8))); have gA : g7 < w8.heap.size := (World.block_lt_of_cell? _ _ r0); have gB : g8 < w8.heap.size := (World.block_lt_of_cell? _ _ r2); have gC : g9 < w8.heap.size := (World.block_lt_of_cell? _ _ r4))) | (go_at_call 45; ((with_reducible refine (HC5 _).out.mono ?_); rintro v w10 ⟨rfl, hb10⟩; have hB : Below w.heap.size w w10 := (by (with_reducible repeat (first | exact hB | exact Below.refl _ _ | refine bl_alloc ?_ _ | refine bl_drew ?_ | refine bl_drewN ?_ _ | (refine bl_set ?_ ?_ _; (focus dsimp only; omega)) | refine bl_call ?_ hb10))))))
    all_goals go_ret
    all_goals exact ⟨by simp, by (with_reducible repeat (first | exact hB | exact Below.refl _ _ | refine bl_alloc ?_ _ | refine bl_drew ?_ | refine bl_drewN ?_ _ | (refine bl_set ?_ ?_ _; (focus dsimp only; omega))))⟩
set_option maxHeartbeats 8000000 in
set_option maxRecDepth 100000 in
theorem gearOrder_a (n1 d1 n2 d2 n3 d3 p1 q1 p3 q3 x1 x2 x3 x4 s1 s2 t1 t2 : Int) (w : World) 
    (HT1 : ∀ W, Hid (Calls Try.prog 40 #[.agg #[.int .i64 n1, .int .i64 d1], .int .i64 1000000] W fun v w' => v = .returned (.agg #[.int .i64 p1, .int .i64 q1]) ∧ Below W.heap.size W w'))
    (HT2 : ∀ W, Hid (Calls Try.prog 40 #[.agg #[.int .i64 n2, .int .i64 d2], .int .i64 1000000] W fun v w' => v = .returned (.agg #[.int .i64 p1, .int .i64 q1]) ∧ Below W.heap.size W w'))
    (HT3 : ∀ W, Hid (Calls Try.prog 40 #[.agg #[.int .i64 n3, .int .i64 d3], .int .i64 1000000] W fun v w' => v = .returned (.agg #[.int .i64 p3, .int .i64 q3]) ∧ Below W.heap.size W w'))
    (HC1 : (∀ W, Hid (Calls Try.prog 45 #[.agg #[.int .i64 p1, .int .i64 q1], .agg #[.int .i64 p1, .int .i64 q1]] W fun v w' => v = .returned (.tuple #[.int .i64 x1, .int .i64 0]) ∧ Below W.heap.size W w'))) (HC2 : (∀ W, Hid (Calls Try.prog 45 #[.agg #[.int .i64 p1, .int .i64 q1], .agg #[.int .i64 p1, .int .i64 q1]] W fun v w' => v = .returned (.tuple #[.int .i64 x2, .int .i64 0]) ∧ Below W.heap.size W w'))) (HC3 : (∀ W, Hid (Calls Try.prog 45 #[.agg #[.int .i64 p1, .int .i64 q1], .agg #[.int .i64 p3, .int .i64 q3]] W fun v w' => v = .returned (.tuple #[.int .i64 x3, .int .i64 0]) ∧ Below W.heap.size W w'))) (HC4 : (∀ W, Hid (Calls Try.prog 45 #[.agg #[.int .i64 p1, .int .i64 q1], .agg #[.int .i64 p3, .int .i64 q3]] W fun v w' => v = .returned (.tuple #[.int .i64 x4, .int .i64 0]) ∧ Below W.heap.size W w')))
    (HA1 : (∀ W, Hid (Calls Try.prog 46 #[.agg #[.int .i64 p1, .int .i64 q1], .agg #[.int .i64 p3, .int .i64 q3]] W fun v w' => v = .returned (.tuple #[.agg #[.int .i64 s1, .int .i64 s2], .int .i64 0]) ∧ Below W.heap.size W w'))) (HA2 : (∀ W, Hid (Calls Try.prog 46 #[.agg #[.int .i64 p1, .int .i64 q1], .agg #[.int .i64 p3, .int .i64 q3]] W fun v w' => v = .returned (.tuple #[.agg #[.int .i64 t1, .int .i64 t2], .int .i64 0]) ∧ Below W.heap.size W w'))) (HC5 : (∀ W, Hid (Calls Try.prog 45 #[.agg #[.int .i64 s1, .int .i64 s2], .agg #[.int .i64 t1, .int .i64 t2]] W fun v w' => v = .returned (.tuple #[.int .i64 x1, .int .i64 0]) ∧ Below W.heap.size W w')))
    (HX : Hid ((x1 = 0 ∧ x2 = 0 ∧ x3 = 1) ∨ (x1 = 0 ∧ x2 = 0 ∧ x3 = 0 ∧ x4 = 0) ∨ (x1 = 0 ∧ x2 = 0 ∧ x3 = -1 ∧ x4 = -1))) :
    Calls Try.prog 9 #[.agg #[.int .i64 n1, .int .i64 d1], .agg #[.int .i64 n2, .int .i64 d2], .agg #[.int .i64 n3, .int .i64 d3]] w fun v w' => v = .returned (.bool true) ∧ Below w.heap.size w w' := by
  have k0 : wrap64 0 = 0 := by kernel_rfl
  have k1 : wrap64 1 = 1 := by kernel_rfl
  have k2 : wrap64 (-1) = -1 := by kernel_rfl
  go_enter Try.func9, Try.ntmps9
  go_upto_region 1 with fail
  go_cut [7, 8, 9] (fun s t o wx => ∃ g7 g8 g9, s = .pointer (some ⟨g7, 0, none⟩) ∧ t = .pointer (some ⟨g8, 0, none⟩) ∧ o = .pointer (some ⟨g9, 0, none⟩) ∧ ((wx.cell? ⟨g7, 0, none⟩ = some (.int .i64 p1) ∧ wx.cell? ⟨g7, 1, none⟩ = some (.int .i64 q1)) ∧ (wx.cell? ⟨g8, 0, none⟩ = some (.int .i64 p1) ∧ wx.cell? ⟨g8, 1, none⟩ = some (.int .i64 q1)) ∧ (wx.cell? ⟨g9, 0, none⟩ = some (.int .i64 p3) ∧ wx.cell? ⟨g9, 1, none⟩ = some (.int .i64 q3))) ∧ Below w.heap.size w wx)
  case first =>
    refine wp_region_told [0, 1, 2, 3, 4, 5, 6, 7, 8] [[], [0], [], [1, 2], [], [3, 4], [], [], []] (RTame (w.heap.size + 1 + 1 + 1) n1 d1 n2 d2 n3 d3 p1 q1 p1 q1 p3 q3) (by kernel_rfl) (by kernel_rfl) (by kernel_rfl) (by decide) (by decide) (by kernel_rfl) ?_ ?_ ?_
    · intro i hi v lo hi' W W' h hb
      simp only [List.mem_cons, List.not_mem_nil, or_false] at hi
      rcases hi with rfl | rfl | rfl | rfl | rfl | rfl | rfl | rfl | rfl
      · exact h
      · exact h
      · exact h
      · exact h
      · exact h
      · exact h
      · (obtain ⟨g, h1, h2, h3, h4⟩ := h; exact ⟨g, h1, h2, h3, fun i hi => kc_below hb (h4.out.1 i hi), fun i hi => kf_below hb (World.block_lt_of_cell? _ _ (h4.out.1 i hi)) (h4.out.2 i hi)⟩)
      · (obtain ⟨g, h1, h2, h3, h4⟩ := h; exact ⟨g, h1, h2, h3, fun i hi => kc_below hb (h4.out.1 i hi), fun i hi => kf_below hb (World.block_lt_of_cell? _ _ (h4.out.1 i hi)) (h4.out.2 i hi)⟩)
      · (obtain ⟨g, h1, h2, h3, h4⟩ := h; exact ⟨g, h1, h2, h3, fun i hi => kc_below hb (h4.out.1 i hi), fun i hi => kf_below hb (World.block_lt_of_cell? _ _ (h4.out.1 i hi)) (h4.out.2 i hi)⟩)
    · intro j hj o tl ho W val lo hi hb hv
      simp only [List.mem_cons, List.not_mem_nil, or_false] at hj
      rcases hj with rfl | rfl | rfl | rfl | rfl | rfl | rfl | rfl | rfl
      · injection ho with h1 h2
        subst h1
        clear h2
        refine givesR_of (by rfl) (fun K hK => ?_) (by simp)
        simp only [putAll, dstOf, List.getD_cons_zero, List.getD_cons_succ, List.getElem?_toArray, List.getElem?_cons_zero, List.getElem?_cons_succ, Option.bind_some, Act.put, List.setIfInBounds_toArray, List.set_cons_zero, List.set_cons_succ] at hK ⊢
        (have ⟨x0, x1⟩ : W.cell? ⟨w.heap.size, 0, none⟩ = some (.int .i64 n1) ∧ W.cell? ⟨w.heap.size, 1, none⟩ = some (.int .i64 d1) := (by and_intros <;> (with_reducible repeat (first | refine kc_drew ?_ | refine kc_drewN _ ?_ | refine kc_below hb ?_ | (refine kc_new ?_ ?_; (focus first | rfl | (simp only [World.size_alloc, World.size_setCell, World.size_drew, size_drewN]; done)); (focus first | rfl | (simp; done))) | (refine kc_set0 ?_ ?_; (focus first | rfl | (simp; done))) | exact ct_of (by assumption) | refine ct_drew ?_ | refine ct_drewN _ ?_ | refine ct_below hb ?_ | (refine ct_new ?_ ?_; (focus first | rfl | (simp only [World.size_alloc, World.size_setCell, World.size_drew, size_drewN]; done)); (focus first | rfl | (simp; done))) | refine ct_set _ _ ?_ | refine ct_alloc _ ?_ | (refine kc_set ?_ ?_; (focus first | (intro hx; injection hx; omega) | (simp; done))) | refine kc_alloc _ ?_))); go_simp; refine hK.out _ _ (Below.refl _ _) ?_; exact rfl)
      · injection ho with h1 h2
        subst h1
        clear h2
        have e0 : val 0 = .agg #[.int .i64 n1, .int .i64 d1] := hv 0 (by simp)
        refine givesR_of (by rfl) (fun K hK => ?_) (by simp)
        simp only [putAll, dstOf, List.getD_cons_zero, List.getD_cons_succ, List.getElem?_toArray, List.getElem?_cons_zero, List.getElem?_cons_succ, Option.bind_some, Act.put, List.setIfInBounds_toArray, List.set_cons_zero, List.set_cons_succ, e0] at hK ⊢
        (go_simp; go_at_call 40; ((with_reducible refine (HT1 _).out.mono ?_); rintro v w2 ⟨rfl, hb2⟩; dsimp only; refine hK.out _ _ hb2 ?_; exact rfl))
      · injection ho with h1 h2
        subst h1
        clear h2
        refine givesR_of (by rfl) (fun K hK => ?_) (by simp)
        simp only [putAll, dstOf, List.getD_cons_zero, List.getD_cons_succ, List.getElem?_toArray, List.getElem?_cons_zero, List.getElem?_cons_succ, Option.bind_some, Act.put, List.setIfInBounds_toArray, List.set_cons_zero, List.set_cons_succ] at hK ⊢
        (have ⟨x0, x1⟩ : W.cell? ⟨w.heap.size + 1, 0, none⟩ = some (.int .i64 n2) ∧ W.cell? ⟨w.heap.size + 1, 1, none⟩ = some (.int .i64 d2) := (by and_intros <;> (with_reducible repeat (first | refine kc_drew ?_ | refine kc_drewN _ ?_ | refine kc_below hb ?_ | (refine kc_new ?_ ?_; (focus first | rfl | (simp only [World.size_alloc, World.size_setCell, World.size_drew, size_drewN]; done)); (focus first | rfl | (simp; done))) | (refine kc_set0 ?_ ?_; (focus first | rfl | (simp; done))) | exact ct_of (by assumption) | refine ct_drew ?_ | refine ct_drewN _ ?_ | refine ct_below hb ?_ | (refine ct_new ?_ ?_; (focus first | rfl | (simp only [World.size_alloc, World.size_setCell, World.size_drew, size_drewN]; done)); (focus first | rfl | (simp; done))) | refine ct_set _ _ ?_ | refine ct_alloc _ ?_ | (refine kc_set ?_ ?_; (focus first | (intro hx; injection hx; omega) | (simp; done))) | refine kc_alloc _ ?_))); go_simp; refine hK.out _ _ (Below.refl _ _) ?_; exact rfl)
      · injection ho with h1 h2
        subst h1
        clear h2
        have e1 : val 1 = .agg #[.int .i64 p1, .int .i64 q1] := hv 1 (by simp)
        have e2 : val 2 = .agg #[.int .i64 n2, .int .i64 d2] := hv 2 (by simp)
        refine givesR_of (by rfl) (fun K hK => ?_) (by simp)
        simp only [putAll, dstOf, List.getD_cons_zero, List.getD_cons_succ, List.getElem?_toArray, List.getElem?_cons_zero, List.getElem?_cons_succ, Option.bind_some, Act.put, List.setIfInBounds_toArray, List.set_cons_zero, List.set_cons_succ, e1, e2] at hK ⊢
        (go_simp; go_at_call 40; ((with_reducible refine (HT2 _).out.mono ?_); rintro v w2 ⟨rfl, hb2⟩; dsimp only; refine hK.out _ _ hb2 ?_; exact rfl))
      · injection ho with h1 h2
        subst h1
        clear h2
        refine givesR_of (by rfl) (fun K hK => ?_) (by simp)
        simp only [putAll, dstOf, List.getD_cons_zero, List.getD_cons_succ, List.getElem?_toArray, List.getElem?_cons_zero, List.getElem?_cons_succ, Option.bind_some, Act.put, List.setIfInBounds_toArray, List.set_cons_zero, List.set_cons_succ] at hK ⊢
        (have ⟨x0, x1⟩ : W.cell? ⟨w.heap.size + 1 + 1, 0, none⟩ = some (.int .i64 n3) ∧ W.cell? ⟨w.heap.size + 1 + 1, 1, none⟩ = some (.int .i64 d3) := (by and_intros <;> (with_reducible repeat (first | refine kc_drew ?_ | refine kc_drewN _ ?_ | refine kc_below hb ?_ | (refine kc_new ?_ ?_; (focus first | rfl | (simp only [World.size_alloc, World.size_setCell, World.size_drew, size_drewN]; done)); (focus first | rfl | (simp; done))) | (refine kc_set0 ?_ ?_; (focus first | rfl | (simp; done))) | exact ct_of (by assumption) | refine ct_drew ?_ | refine ct_drewN _ ?_ | refine ct_below hb ?_ | (refine ct_new ?_ ?_; (focus first | rfl | (simp only [World.size_alloc, World.size_setCell, World.size_drew, size_drewN]; done)); (focus first | rfl | (simp; done))) | refine ct_set _ _ ?_ | refine ct_alloc _ ?_ | (refine kc_set ?_ ?_; (focus first | (intro hx; injection hx; omega) | (simp; done))) | refine kc_alloc _ ?_))); go_simp; refine hK.out _ _ (Below.refl _ _) ?_; exact rfl)
      · injection ho with h1 h2
        subst h1
        clear h2
        have e3 : val 3 = .agg #[.int .i64 p1, .int .i64 q1] := hv 3 (by simp)
        have e4 : val 4 = .agg #[.int .i64 n3, .int .i64 d3] := hv 4 (by simp)
        refine givesR_of (by rfl) (fun K hK => ?_) (by simp)
        simp only [putAll, dstOf, List.getD_cons_zero, List.getD_cons_succ, List.getElem?_toArray, List.getElem?_cons_zero, List.getElem?_cons_succ, Option.bind_some, Act.put, List.setIfInBounds_toArray, List.set_cons_zero, List.set_cons_succ, e3, e4] at hK ⊢
        (go_simp; go_at_call 40; ((with_reducible refine (HT3 _).out.mono ?_); rintro v w2 ⟨rfl, hb2⟩; dsimp only; refine hK.out _ _ hb2 ?_; exact rfl))
      · injection ho with h1 h2
        subst h1
        clear h2
        refine givesR_of (by rfl) (fun K hK => ?_) (by simp)
        simp only [putAll, dstOf, List.getD_cons_zero, List.getD_cons_succ, List.getElem?_toArray, List.getElem?_cons_zero, List.getElem?_cons_succ, Option.bind_some, Act.put, List.setIfInBounds_toArray, List.set_cons_zero, List.set_cons_succ] at hK ⊢
        (go_simp; refine hK.out _ _ (by (with_reducible repeat (first | exact Below.refl _ _ | refine bl_alloc ?_ _ | refine bl_drew ?_ | refine bl_drewN ?_ _ | (refine bl_set ?_ ?_ _; (focus dsimp only; omega))))) ?_; exact ⟨_, rfl, ⟨by have := hb.size; (simp only [World.size_alloc] at this); omega, Nat.le_refl _⟩, by simp, fun i hi => (by rcases (show i = 0 ∨ i = 1 by omega) with rfl | rfl <;> exact kc_new rfl rfl), fun i hi => kf_new rfl _⟩)
      · injection ho with h1 h2
        subst h1
        clear h2
        refine givesR_of (by rfl) (fun K hK => ?_) (by simp)
        simp only [putAll, dstOf, List.getD_cons_zero, List.getD_cons_succ, List.getElem?_toArray, List.getElem?_cons_zero, List.getElem?_cons_succ, Option.bind_some, Act.put, List.setIfInBounds_toArray, List.set_cons_zero, List.set_cons_succ] at hK ⊢
        (go_simp; refine hK.out _ _ (by (with_reducible repeat (first | exact Below.refl _ _ | refine bl_alloc ?_ _ | refine bl_drew ?_ | refine bl_drewN ?_ _ | (refine bl_set ?_ ?_ _; (focus dsimp only; omega))))) ?_; exact ⟨_, rfl, ⟨by have := hb.size; (simp only [World.size_alloc] at this); omega, Nat.le_refl _⟩, by simp, fun i hi => (by rcases (show i = 0 ∨ i = 1 by omega) with rfl | rfl <;> exact kc_new rfl rfl), fun i hi => kf_new rfl _⟩)
      · injection ho with h1 h2
        subst h1
        clear h2
        refine givesR_of (by rfl) (fun K hK => ?_) (by simp)
        simp only [putAll, dstOf, List.getD_cons_zero, List.getD_cons_succ, List.getElem?_toArray, List.getElem?_cons_zero, List.getElem?_cons_succ, Option.bind_some, Act.put, List.setIfInBounds_toArray, List.set_cons_zero, List.set_cons_succ] at hK ⊢
        (go_simp; refine hK.out _ _ (by (with_reducible repeat (first | exact Below.refl _ _ | refine bl_alloc ?_ _ | refine bl_drew ?_ | refine bl_drewN ?_ _ | (refine bl_set ?_ ?_ _; (focus dsimp only; omega))))) ?_; exact ⟨_, rfl, ⟨by have := hb.size; (simp only [World.size_alloc] at this); omega, Nat.le_refl _⟩, by simp, fun i hi => (by rcases (show i = 0 ∨ i = 1 by omega) with rfl | rfl <;> exact kc_new rfl rfl), fun i hi => kf_new rfl _⟩)
    · intro W val lo hi hb hv hd
      have e0 : val 0 = .agg #[.int .i64 n1, .int .i64 d1] := hv 0 (by simp)
      have e1 : val 1 = .agg #[.int .i64 p1, .int .i64 q1] := hv 1 (by simp)
      have e2 : val 2 = .agg #[.int .i64 n2, .int .i64 d2] := hv 2 (by simp)
      have e3 : val 3 = .agg #[.int .i64 p1, .int .i64 q1] := hv 3 (by simp)
      have e4 : val 4 = .agg #[.int .i64 n3, .int .i64 d3] := hv 4 (by simp)
      have e5 : val 5 = .agg #[.int .i64 p3, .int .i64 q3] := hv 5 (by simp)
      obtain ⟨g7, e6, hg7, hg7', Hg7⟩ := hv 6 (by simp)
      obtain ⟨g8, e7, hg8, hg8', Hg8⟩ := hv 7 (by simp)
      obtain ⟨g9, e8, hg9, hg9', Hg9⟩ := hv 8 (by simp)
      have d67 := hd 6 (by simp) 7 (by simp) (by decide)
      have d68 := hd 6 (by simp) 8 (by simp) (by decide)
      have d78 := hd 7 (by simp) 8 (by simp) (by decide)
      have n78 : g7 ≠ g8 := by omega
      have n87 : g8 ≠ g7 := by omega
      have n79 : g7 ≠ g9 := by omega
      have n97 : g9 ≠ g7 := by omega
      have n89 : g8 ≠ g9 := by omega
      have n98 : g9 ≠ g8 := by omega
      have y0 := Hg7.out.1 0 (by omega)
      have y1 := Hg7.out.1 1 (by omega)
      have y2 := Hg8.out.1 0 (by omega)
      have y3 := Hg8.out.1 1 (by omega)
      have y4 := Hg9.out.1 0 (by omega)
      have y5 := Hg9.out.1 1 (by omega)
      have f0 := Hg7.out.2 0 (by omega)
      have f1 := Hg7.out.2 1 (by omega)
      have f2 := Hg8.out.2 0 (by omega)
      have f3 := Hg8.out.2 1 (by omega)
      have f4 := Hg9.out.2 0 (by omega)
      have f5 := Hg9.out.2 1 (by omega)
      have gzg7 := World.block_lt_of_cell? _ _ y0
      have gzg8 := World.block_lt_of_cell? _ _ y2
      have gzg9 := World.block_lt_of_cell? _ _ y4
      simp only at gzg7 gzg8 gzg9
      have hBW : Below w.heap.size w W := (by (with_reducible repeat (first | exact Below.refl _ _ | refine bl_alloc ?_ _ | refine bl_drew ?_ | refine bl_drewN ?_ _ | (refine bl_set ?_ ?_ _; (focus dsimp only; omega)) | refine bl_call ?_ hb)))
      obtain ⟨gbg7, _⟩ := hg7
      obtain ⟨gbg8, _⟩ := hg8
      obtain ⟨gbg9, _⟩ := hg9
      clear hv hd Hg7 Hg8 Hg9
      simp only [putAll, dstOf, List.getD_cons_zero, List.getD_cons_succ, List.getElem?_toArray, List.getElem?_cons_zero, List.getElem?_cons_succ, Option.bind_some, Act.put, List.setIfInBounds_toArray, List.set_cons_zero, List.set_cons_succ, e0, e1, e2, e3, e4, e5, e6, e7, e8]
      refine wpAnyH_ready (rs := [9]) (by kernel_rfl) (by simp) ?_
      refine consH 9 rfl (fun K hK => ?_) ?_
      · go_simp
        refine hK.out _ _ ?_ (fun hHeld => ?_)
        · trivial
        clear hK K
        (try simp only [Act.put, List.setIfInBounds_toArray, List.set_cons_zero, List.set_cons_succ])
        refine wpAnyH_ready (rs := [10]) (by kernel_rfl) (by simp) ?_
        refine consH 10 rfl (fun K hK => ?_) ?_
        · go_simp
          refine hK.out _ _ ?_ (fun hHeld => ?_)
          · trivial
          clear hK K
          (try simp only [Act.put, List.setIfInBounds_toArray, List.set_cons_zero, List.set_cons_succ])
          refine wpAnyH_ready (rs := [11]) (by kernel_rfl) (by simp) ?_
          refine consH 11 rfl (fun K hK => ?_) ?_
          · go_simp
            refine hK.out _ _ ?_ (fun hHeld => ?_)
            · trivial
            clear hK K
            (try simp only [Act.put, List.setIfInBounds_toArray, List.set_cons_zero, List.set_cons_succ])
            refine wpAnyH_done (by kernel_rfl) ?_ _
            skip
            go_wp2_with fail
            go_meet
            refine ⟨g7, g8, g9, rfl, rfl, rfl, ⟨⟨?_, ?_⟩, ⟨?_, ?_⟩, ⟨?_, ?_⟩⟩, ?_⟩
            all_goals first | ((with_reducible repeat (first | exact y0 | exact y1 | exact y2 | exact y3 | exact y4 | exact y5 | refine kc_drew ?_ | refine kc_drewN _ ?_ | (refine kc_new ?_ ?_; (focus first | rfl | (simp only [World.size_alloc, World.size_setCell, World.size_drew, size_drewN]; done)); (focus first | rfl | (simp; done))) | (refine kc_set0 ?_ ?_; (focus first | rfl | (simp; done))) | exact ct_of (by assumption) | refine ct_drew ?_ | refine ct_drewN _ ?_ | (refine ct_new ?_ ?_; (focus first | rfl | (simp only [World.size_alloc, World.size_setCell, World.size_drew, size_drewN]; done)); (focus first | rfl | (simp; done))) | refine ct_set _ _ ?_ | refine ct_alloc _ ?_ | (refine kc_set ?_ ?_; (focus first | (intro hx; injection hx; omega) | (simp; done))) | refine kc_alloc _ ?_)); done) | ((with_reducible repeat (first | exact hBW | exact Below.refl _ _ | refine bl_alloc ?_ _ | refine bl_drew ?_ | refine bl_drewN ?_ _ | (refine bl_set ?_ ?_ _; (focus dsimp only; omega)))); done)
          exact AllReadyH.nil
        exact AllReadyH.nil
      exact AllReadyH.nil
  case rest =>
    obtain ⟨g7, g8, g9, rfl, rfl, rfl, ⟨⟨r0, r1⟩, ⟨r2, r3⟩, r4, r5⟩, hB⟩ := hcut
    have gA : g7 < wc.heap.size := World.block_lt_of_cell? _ _ r0
    have gB : g8 < wc.heap.size := World.block_lt_of_cell? _ _ r2
    have gC : g9 < wc.heap.size := World.block_lt_of_cell? _ _ r4
    clear HT1 HT2 HT3
    go_upto_region 6 with (first | (have hgd := hb4; clear hgd; go_at_call 45; ((with_reducible refine (HC4 _).out.mono ?_); rintro v w5 ⟨rfl, hb5⟩; have ⟨r0, r1, r2, r3, r4, r5⟩ : w5.cell? ⟨g7, 0, none⟩ = some (.int .i64 p1) ∧ w5.cell? ⟨g7, 1, none⟩ = some (.int .i64 q1) ∧ w5.cell? ⟨g8, 0, none⟩ = some (.int .i64 p1) ∧ w5.cell? ⟨g8, 1, none⟩ = some (.int .i64 q1) ∧ w5.cell? ⟨g9, 0, none⟩ = some (.int .i64 p3) ∧ w5.cell? ⟨g9, 1, none⟩ = some (.int .i64 q3) := (by and_intros <;> (with_reducible repeat (first | exact r0 | exact r1 | exact r2 | exact r3 | exact r4 | exact r5 | refine kc_drew ?_ | refine kc_drewN _ ?_ | refine kc_below hb5 ?_ | (refine kc_new ?_ ?_; (focus first | rfl | (simp only [World.size_alloc, World.size_setCell, World.size_drew, size_drewN]; done)); (focus first | rfl | (simp; done))) | (refine kc_set0 ?_ ?_; (focus first | rfl | (simp; done))) | exact ct_of (by assumption) | refine ct_drew ?_ | refine ct_drewN _ ?_ | refine ct_below hb5 ?_ | (refine ct_new ?_ ?_; (focus first | rfl | (simp only [World.size_alloc, World.size_setCell, World.size_drew, size_drewN]; done)); (focus first | rfl | (simp; done))) | refine ct_set _ _ ?_ | refine ct_alloc _ ?_ | (refine kc_set ?_ ?_; (focus first | (intro hx; injection hx; omega) | (simp; done))) | refine kc_alloc _ ?_))); have hB : Below w.heap.size w w5 := (by (with_reducible repeat (first | exact hB | exact Below.refl _ _ | refine bl_alloc ?_ _ | refine bl_drew ?_ | refine bl_drewN ?_ _ | (refine bl_set ?_ ?_ _; (focus dsimp only; omega)) | refine bl_call ?_ hb5))); have gA : g7 < w5.heap.size := (World.block_lt_of_cell? _ _ r0); have gB : g8 < w5.heap.size := (World.block_lt_of_cell? _ _ r2); have gC : g9 < w5.heap.size := (World.block_lt_of_cell? _ _ r4))) | (have hgd := hb3; clear hgd; go_at_call 45; ((with_reducible refine (HC3 _).out.mono ?_); rintro v w4 ⟨rfl, hb4⟩; have ⟨r0, r1, r2, r3, r4, r5⟩ : w4.cell? ⟨g7, 0, none⟩ = some (.int .i64 p1) ∧ w4.cell? ⟨g7, 1, none⟩ = some (.int .i64 q1) ∧ w4.cell? ⟨g8, 0, none⟩ = some (.int .i64 p1) ∧ w4.cell? ⟨g8, 1, none⟩ = some (.int .i64 q1) ∧ w4.cell? ⟨g9, 0, none⟩ = some (.int .i64 p3) ∧ w4.cell? ⟨g9, 1, none⟩ = some (.int .i64 q3) := (by and_intros <;> (with_reducible repeat (first | exact r0 | exact r1 | exact r2 | exact r3 | exact r4 | exact r5 | refine kc_drew ?_ | refine kc_drewN _ ?_ | refine kc_below hb4 ?_ | (refine kc_new ?_ ?_; (focus first | rfl | (simp only [World.size_alloc, World.size_setCell, World.size_drew, size_drewN]; done)); (focus first | rfl | (simp; done))) | (refine kc_set0 ?_ ?_; (focus first | rfl | (simp; done))) | exact ct_of (by assumption) | refine ct_drew ?_ | refine ct_drewN _ ?_ | refine ct_below hb4 ?_ | (refine ct_new ?_ ?_; (focus first | rfl | (simp only [World.size_alloc, World.size_setCell, World.size_drew, size_drewN]; done)); (focus first | rfl | (simp; done))) | refine ct_set _ _ ?_ | refine ct_alloc _ ?_ | (refine kc_set ?_ ?_; (focus first | (intro hx; injection hx; omega) | (simp; done))) | refine kc_alloc _ ?_))); have hB : Below w.heap.size w w4 := (by (with_reducible repeat (first | exact hB | exact Below.refl _ _ | refine bl_alloc ?_ _ | refine bl_drew ?_ | refine bl_drewN ?_ _ | (refine bl_set ?_ ?_ _; (focus dsimp only; omega)) | refine bl_call ?_ hb4))); have gA : g7 < w4.heap.size := (World.block_lt_of_cell? _ _ r0); have gB : g8 < w4.heap.size := (World.block_lt_of_cell? _ _ r2); have gC : g9 < w4.heap.size := (World.block_lt_of_cell? _ _ r4))) | (have hgd := hb2; clear hgd; go_at_call 45; ((with_reducible refine (HC2 _).out.mono ?_); rintro v w3 ⟨rfl, hb3⟩; have ⟨r0, r1, r2, r3, r4, r5⟩ : w3.cell? ⟨g7, 0, none⟩ = some (.int .i64 p1) ∧ w3.cell? ⟨g7, 1, none⟩ = some (.int .i64 q1) ∧ w3.cell? ⟨g8, 0, none⟩ = some (.int .i64 p1) ∧ w3.cell? ⟨g8, 1, none⟩ = some (.int .i64 q1) ∧ w3.cell? ⟨g9, 0, none⟩ = some (.int .i64 p3) ∧ w3.cell? ⟨g9, 1, none⟩ = some (.int .i64 q3) := (by and_intros <;> (with_reducible repeat (first | exact r0 | exact r1 | exact r2 | exact r3 | exact r4 | exact r5 | refine kc_drew ?_ | refine kc_drewN _ ?_ | refine kc_below hb3 ?_ | (refine kc_new ?_ ?_; (focus first | rfl | (simp only [World.size_alloc, World.size_setCell, World.size_drew, size_drewN]; done)); (focus first | rfl | (simp; done))) | (refine kc_set0 ?_ ?_; (focus first | rfl | (simp; done))) | exact ct_of (by assumption) | refine ct_drew ?_ | refine ct_drewN _ ?_ | refine ct_below hb3 ?_ | (refine ct_new ?_ ?_; (focus first | rfl | (simp only [World.size_alloc, World.size_setCell, World.size_drew, size_drewN]; done)); (focus first | rfl | (simp; done))) | refine ct_set _ _ ?_ | refine ct_alloc _ ?_ | (refine kc_set ?_ ?_; (focus first | (intro hx; injection hx; omega) | (simp; done))) | refine kc_alloc _ ?_))); have hB : Below w.heap.size w w3 := (by (with_reducible repeat (first | exact hB | exact Below.refl _ _ | refine bl_alloc ?_ _ | refine bl_drew ?_ | refine bl_drewN ?_ _ | (refine bl_set ?_ ?_ _; (focus dsimp only; omega)) | refine bl_call ?_ hb3))); have gA : g7 < w3.heap.size := (World.block_lt_of_cell? _ _ r0); have gB : g8 < w3.heap.size := (World.block_lt_of_cell? _ _ r2); have gC : g9 < w3.heap.size := (World.block_lt_of_cell? _ _ r4))) | (go_at_call 45; ((with_reducible refine (HC1 _).out.mono ?_); rintro v w2 ⟨rfl, hb2⟩; have ⟨r0, r1, r2, r3, r4, r5⟩ : w2.cell? ⟨g7, 0, none⟩ = some (.int .i64 p1) ∧ w2.cell? ⟨g7, 1, none⟩ = some (.int .i64 q1) ∧ w2.cell? ⟨g8, 0, none⟩ = some (.int .i64 p1) ∧ w2.cell? ⟨g8, 1, none⟩ = some (.int .i64 q1) ∧ w2.cell? ⟨g9, 0, none⟩ = some (.int .i64 p3) ∧ w2.cell? ⟨g9, 1, none⟩ = some (.int .i64 q3) := (by and_intros <;> (with_reducible repeat (first | exact r0 | exact r1 | exact r2 | exact r3 | exact r4 | exact r5 | refine kc_drew ?_ | refine kc_drewN _ ?_ | refine kc_below hb2 ?_ | (refine kc_new ?_ ?_; (focus first | rfl | (simp only [World.size_alloc, World.size_setCell, World.size_drew, size_drewN]; done)); (focus first | rfl | (simp; done))) | (refine kc_set0 ?_ ?_; (focus first | rfl | (simp; done))) | exact ct_of (by assumption) | refine ct_drew ?_ | refine ct_drewN _ ?_ | refine ct_below hb2 ?_ | (refine ct_new ?_ ?_; (focus first | rfl | (simp only [World.size_alloc, World.size_setCell, World.size_drew, size_drewN]; done)); (focus first | rfl | (simp; done))) | refine ct_set _ _ ?_ | refine ct_alloc _ ?_ | (refine kc_set ?_ ?_; (focus first | (intro hx; injection hx; omega) | (simp; done))) | refine kc_alloc _ ?_))); have hB : Below w.heap.size w w2 := (by (with_reducible repeat (first | exact hB | exact Below.refl _ _ | refine bl_alloc ?_ _ | refine bl_drew ?_ | refine bl_drewN ?_ _ | (refine bl_set ?_ ?_ _; (focus dsimp only; omega)) | refine bl_call ?_ hb2))); have gA : g7 < w2.heap.size := (World.block_lt_of_cell? _ _ r0); have gB : g8 < w2.heap.size := (World.block_lt_of_cell? _ _ r2); have gC : g9 < w2.heap.size := (World.block_lt_of_cell? _ _ r4))))
    clear HC1 HC2 HC3 HC4
    rcases HX.out with ⟨rfl, rfl, rfl⟩ | ⟨rfl, rfl, rfl, rfl⟩ | ⟨rfl, rfl, rfl, rfl⟩
    all_goals clear HX
    all_goals go_wp2_with (first | (go_at_call 23; refine (lives_any _).mono ?_; rintro v w6 ⟨rfl, hb6⟩; have ⟨r0, r1, r2, r3, r4, r5⟩ : w6.cell? ⟨g7, 0, none⟩ = some (.int .i64 p1) ∧ w6.cell? ⟨g7, 1, none⟩ = some (.int .i64 q1) ∧ w6.cell? ⟨g8, 0, none⟩ = some (.int .i64 p1) ∧ w6.cell? ⟨g8, 1, none⟩ = some (.int .i64 q1) ∧ w6.cell? ⟨g9, 0, none⟩ = some (.int .i64 p3) ∧ w6.cell? ⟨g9, 1, none⟩ = some (.int .i64 q3) := (by and_intros <;> (with_reducible repeat (first | exact r0 | exact r1 | exact r2 | exact r3 | exact r4 | exact r5 | refine kc_drew ?_ | refine kc_drewN _ ?_ | refine kc_below hb6 ?_ | (refine kc_new ?_ ?_; (focus first | rfl | (simp only [World.size_alloc, World.size_setCell, World.size_drew, size_drewN]; done)); (focus first | rfl | (simp; done))) | (refine kc_set0 ?_ ?_; (focus first | rfl | (simp; done))) | exact ct_of (by assumption) | refine ct_drew ?_ | refine ct_drewN _ ?_ | refine ct_below hb6 ?_ | (refine ct_new ?_ ?_; (focus first | rfl | (simp only [World.size_alloc, World.size_setCell, World.size_drew, size_drewN]; done)); (focus first | rfl | (simp; done))) | refine ct_set _ _ ?_ | refine ct_alloc _ ?_ | (refine kc_set ?_ ?_; (focus first | (intro hx; injection hx; omega) | (simp; done))) | refine kc_alloc _ ?_))); have hB : Below w.heap.size w w6 := (by (with_reducible repeat (first | exact hB | exact Below.refl _ _ | refine bl_alloc ?_ _ | refine bl_drew ?_ | refine bl_drewN ?_ _ | (refine bl_set ?_ ?_ _; (focus dsimp only; omega)) | refine bl_call ?_ hb6))); have gA : g7 < w6.heap.size := (World.block_lt_of_cell? _ _ r0); have gB : g8 < w6.heap.size := (World.block_lt_of_cell? _ _ r2); have gC : g9 < w6.heap.size := (World.block_lt_of_cell? _ _ r4)) | (have hgd := hb8; clear hgd; go_at_call 46; ((with_reducible refine (HA2 _).out.mono ?_); rintro v w9 ⟨rfl, hb9⟩; have ⟨r0, r1, r2, r3, r4, r5, r6, r7⟩ : w9.cell? ⟨g7, 0, none⟩ = some (.int .i64 p1) ∧ w9.cell? ⟨g7, 1, none⟩ = some (.int .i64 q1) ∧ w9.cell? ⟨g8, 0, none⟩ = some (.int .i64 p1) ∧ w9.cell? ⟨g8, 1, none⟩ = some (.int .i64 q1) ∧ w9.cell? ⟨g9, 0, none⟩ = some (.int .i64 p3) ∧ w9.cell? ⟨g9, 1, none⟩ = some (.int .i64 q3) ∧ w9.cell? ⟨w8.heap.size, 0, none⟩ = some (.int .i64 s1) ∧ w9.cell? ⟨w8.heap.size, 1, none⟩ = some (.int .i64 s2) := (by and_intros <;> (with_reducible repeat (first | exact r0 | exact r1 | exact r2 | exact r3 | exact r4 | exact r5 | exact r6 | exact r7 | refine kc_drew ?_ | refine kc_drewN _ ?_ | refine kc_below hb9 ?_ | (refine kc_new ?_ ?_; (focus first | rfl | (simp only [World.size_alloc, World.size_setCell, World.size_drew, size_drewN]; done)); (focus first | rfl | (simp; done))) | (refine kc_set0 ?_ ?_; (focus first | rfl | (simp; done))) | exact ct_of (by assumption) | refine ct_drew ?_ | refine ct_drewN _ ?_ | refine ct_below hb9 ?_ | (refine ct_new ?_ ?_; (focus first | rfl | (simp only [World.size_alloc, World.size_setCell, World.size_drew, size_drewN]; done)); (focus first | rfl | (simp; done))) | refine ct_set _ _ ?_ | refine ct_alloc _ ?_ | (refine kc_set ?_ ?_; (focus first | (intro hx; injection hx; omega) | (simp; done))) | refine kc_alloc _ ?_))); have hB : Below w.heap.size w w9 := (by (with_reducible repeat (first | exact hB | exact Below.refl _ _ | refine bl_alloc ?_ _ | refine bl_drew ?_ | refine bl_drewN ?_ _ | (refine bl_set ?_ ?_ _; (focus dsimp only; omega)) | refine bl_call ?_ hb9))); have gD : w8.heap.size < w9.heap.size := (World.block_lt_of_cell? _ _ r6))) | (go_at_call 46; ((with_reducible refine (HA1 _).out.mono ?_); rintro v w8 ⟨rfl, hb8⟩; have ⟨r0, r1, r2, r3, r4, r5⟩ : w8.cell? ⟨g7, 0, none⟩ = some (.int .i64 p1) ∧ w8.cell? ⟨g7, 1, none⟩ = some (.int .i64 q1) ∧ w8.cell? ⟨g8, 0, none⟩ = some (.int .i64 p1) ∧ w8.cell? ⟨g8, 1, none⟩ = some (.int .i64 q1) ∧ w8.cell? ⟨g9, 0, none⟩ = some (.int .i64 p3) ∧ w8.cell? ⟨g9, 1, none⟩ = some (.int .i64 q3) := (by and_intros <;> (with_reducible repeat (first | exact r0 | exact r1 | exact r2 | exact r3 | exact r4 | exact r5 | refine kc_drew ?_ | refine kc_drewN _ ?_ | refine kc_below hb8 ?_ | (refine kc_new ?_ ?_; (focus first | rfl | (simp only [World.size_alloc, World.size_setCell, World.size_drew, size_drewN]; done)); (focus first | rfl | (simp; done))) | (refine kc_set0 ?_ ?_; (focus first | rfl | (simp; done))) | exact ct_of (by assumption) | refine ct_drew ?_ | refine ct_drewN _ ?_ | refine ct_below hb8 ?_ | (refine ct_new ?_ ?_; (focus first | rfl | (simp only [World.size_alloc, World.size_setCell, World.size_drew, size_drewN]; done)); (focus first | rfl | (simp; done))) | refine ct_set _ _ ?_ | refine ct_alloc _ ?_ | (refine kc_set ?_ ?_; (focus first | (intro hx; injection hx; omega) | (simp; done))) | refine kc_alloc _ ?_))); have hB : Below w.heap.size w w8 := (by (with_reducible repeat (first | exact hB | exact Below.refl _ _ | refine bl_alloc ?_ _ | refine bl_drew ?_ | refine bl_drewN ?_ _ | (refine bl_set ?_ ?_ _; (focus dsimp only; omega)) | refine bl_call ?_ hb8))); have gA : g7 < w8.heap.size := (World.block_lt_of_cell? _ _ r0); have gB : g8 < w8.heap.size := (World.block_lt_of_cell? _ _ r2); have gC : g9 < w8.heap.size := (World.block_lt_of_cell? _ _ r4))) | (go_at_call 45; ((with_reducible refine (HC5 _).out.mono ?_); rintro v w10 ⟨rfl, hb10⟩; have hB : Below w.heap.size w w10 := (by (with_reducible repeat (first | exact hB | exact Below.refl _ _ | refine bl_alloc ?_ _ | refine bl_drew ?_ | refine bl_drewN ?_ _ | (refine bl_set ?_ ?_ _; (focus dsimp only; omega)) | refine bl_call ?_ hb10))))))
    all_goals go_ret
    all_goals exact ⟨by simp, by (with_reducible repeat (first | exact hB | exact Below.refl _ _ | refine bl_alloc ?_ _ | refine bl_drew ?_ | refine bl_drewN ?_ _ | (refine bl_set ?_ ?_ _; (focus dsimp only; omega))))⟩
end Go.Proofs.Ytoenimkgagndnaa
