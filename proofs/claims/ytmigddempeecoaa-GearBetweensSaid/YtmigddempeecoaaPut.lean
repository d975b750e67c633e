/- A train stored into a box: what stays, what is there. -/
import Derived.Test.YtmigddempeecoaaBodyC
namespace Go.Proofs.Ytmigddempeecoaa
set_option linter.unusedVariables false
set_option linter.unusedSimpArgs false
open Go.RowKit Go.Shelf Go.Lib Go.Sort

theorem kp_refl (bb : Nat) (W : World) : KpB bb W W := ⟨Nat.le_refl _, fun _ _ _ _ _ _ => rfl⟩
theorem kp_gro {bb : Nat} {W W1 : World} (h : Gro W W1) : KpB bb W W1 := by
  have hb := h.below
  refine ⟨hb.size, fun k cs e fr _ hk => hb.block k ?_⟩
  exact (Array.getElem?_eq_some_iff.1 hk).1
theorem kp_set {bb o : Nat} (W : World) (u : Value) : KpB bb W (W.setCell ⟨bb, o, none⟩ u) := by
  refine ⟨by simp, fun k cs e fr hne hk => ?_⟩
  exact Below.heap_setCell W ⟨bb, o, none⟩ u k hne
theorem kp_put11 {bb : Nat} {W W1 : World} (h : Gro W W1) (t : Tr) : KpB bb W (put11 W1 bb t) := by
  unfold put11
  repeat (refine kp_trans ?_ (kp_set _ _))
  exact kp_gro h
theorem ko_gro {W W1 : World} (h : Gro W W1) : KeepsOthers W W1 := by
  have hb := h.below
  exact ⟨hb.size, fun k o hk _ => (hb.block k (Array.getElem?_eq_some_iff.1 hk).1).trans hk⟩
theorem ko_put11 {bb : Nat} {W W1 : World} (h : Gro W W1) (t : Tr) : KeepsOthers W (put11 W1 bb t) := by
  unfold put11
  repeat (refine KeepsOthers.trans ?_ (KeepsOthers.setCell _ _ _))
  exact ko_gro h
/-- A train lies in a box. -/
def box11 (W : World) (b : Nat) (t : Tr) : Prop := W.cell? ⟨b, 0, none⟩ = some (.int .i64 t.n) ∧ W.cell? ⟨b, 1, none⟩ = some (.int .i64 t.w.a) ∧ W.cell? ⟨b, 2, none⟩ = some (.int .i64 t.w.b) ∧ W.cell? ⟨b, 3, none⟩ = some (.int .i64 t.w.c) ∧ W.cell? ⟨b, 4, none⟩ = some (.int .i64 t.w.p) ∧ W.cell? ⟨b, 5, none⟩ = some (.int .i64 t.w.s) ∧ W.cell? ⟨b, 6, none⟩ = some (.int .i64 t.p.a) ∧ W.cell? ⟨b, 7, none⟩ = some (.int .i64 t.p.b) ∧ W.cell? ⟨b, 8, none⟩ = some (.int .i64 t.p.c) ∧ W.cell? ⟨b, 9, none⟩ = some (.int .i64 t.p.p) ∧ W.cell? ⟨b, 10, none⟩ = some (.int .i64 t.p.s)
theorem box_put11 {bb : Nat} {W1 : World} (t : Tr) (h0 : there W1 ⟨bb, 0, none⟩) (h1 : there W1 ⟨bb, 1, none⟩) (h2 : there W1 ⟨bb, 2, none⟩) (h3 : there W1 ⟨bb, 3, none⟩) (h4 : there W1 ⟨bb, 4, none⟩) (h5 : there W1 ⟨bb, 5, none⟩) (h6 : there W1 ⟨bb, 6, none⟩) (h7 : there W1 ⟨bb, 7, none⟩) (h8 : there W1 ⟨bb, 8, none⟩) (h9 : there W1 ⟨bb, 9, none⟩) (h10 : there W1 ⟨bb, 10, none⟩) : box11 (put11 W1 bb t) bb t := by
  unfold box11 put11
  refine ⟨?_, ?_, ?_, ?_, ?_, ?_, ?_, ?_, ?_, ?_, ?_⟩
  all_goals (repeat (first | with_reducible exact h0 | with_reducible exact h1 | with_reducible exact h2 | with_reducible exact h3 | with_reducible exact h4 | with_reducible exact h5 | with_reducible exact h6 | with_reducible exact h7 | with_reducible exact h8 | with_reducible exact h9 | with_reducible exact h10 | with_reducible rfl | with_reducible exact Below.refl _ _ | with_reducible exact gro_refl _ | with_reducible refine kc_drew ?_ | with_reducible refine kc_drewN _ ?_ | with_reducible refine kf_drew ?_ | with_reducible refine kf_drewN _ ?_ | ((with_reducible refine kc_new ?_ ?_); (focus (first | with_reducible rfl | (simp only [World.size_alloc, World.size_setCell, World.size_drew, size_drewN]; done))); (focus (first | rfl | (simp; done)))) | ((with_reducible refine kc_set0 ?_ ?_); (focus (first | rfl | (simp; done)))) | with_reducible exact ct_of (h0) | with_reducible exact ct_of (h1) | with_reducible exact ct_of (h2) | with_reducible exact ct_of (h3) | with_reducible exact ct_of (h4) | with_reducible exact ct_of (h5) | with_reducible exact ct_of (h6) | with_reducible exact ct_of (h7) | with_reducible exact ct_of (h8) | with_reducible exact ct_of (h9) | with_reducible exact ct_of (h10) | with_reducible refine ct_drew ?_ | with_reducible refine ct_drewN _ ?_ | ((with_reducible refine ct_new ?_ ?_); (focus (first | with_reducible rfl | (simp only [World.size_alloc, World.size_setCell, World.size_drew, size_drewN]; done))); (focus (first | rfl | (simp; done)))) | with_reducible refine ct_set _ _ ?_ | with_reducible refine ct_alloc _ ?_ | ((with_reducible refine kc_set ?_ ?_); (focus (first | (intro hx; injection hx; omega) | (simp; done)))) | with_reducible refine kc_alloc _ ?_ | ((with_reducible refine kf_new ?_ _); (focus (first | with_reducible rfl | (simp only [World.size_alloc, World.size_setCell, World.size_drew, size_drewN]; done)))) | with_reducible refine kf_set _ _ ?_ | ((with_reducible refine kf_alloc _ ?_ ?_); (focus (first | (simp only [World.size_alloc, World.size_setCell, World.size_drew, size_drewN]; omega) | (dsimp only; omega)))) | with_reducible refine bl_alloc ?_ _ | with_reducible refine bl_drew ?_ | with_reducible refine bl_drewN ?_ _ | ((with_reducible refine bl_set ?_ ?_ _); (focus (dsimp only; omega))) | with_reducible refine gro_alloc ?_ _ | with_reducible refine gro_drew ?_ | with_reducible refine gro_drewN ?_ _ | ((with_reducible refine gro_set ?_ ?_ _); (focus (first | omega | (dsimp only; omega))))))
theorem box_map {W W1 : World} {b : Nat} {t : Tr} (h : box11 W b t) (hk : ∀ i v, W.cell? ⟨b, i, none⟩ = some v → W1.cell? ⟨b, i, none⟩ = some v) : box11 W1 b t := by
  obtain ⟨a0, a1, a2, a3, a4, a5, a6, a7, a8, a9, a10⟩ := h
  exact ⟨hk _ _ a0, hk _ _ a1, hk _ _ a2, hk _ _ a3, hk _ _ a4, hk _ _ a5, hk _ _ a6, hk _ _ a7, hk _ _ a8, hk _ _ a9, hk _ _ a10⟩
end Go.Proofs.Ytmigddempeecoaa
