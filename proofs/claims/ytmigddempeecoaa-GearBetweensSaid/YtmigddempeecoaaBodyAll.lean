/- Exact: the body of its loop, in one. -/
import Derived.Test.YtmigddempeecoaaPut
namespace Go.Proofs.Ytmigddempeecoaa
set_option linter.unusedVariables false
set_option linter.unusedSimpArgs false
open Go.RowKit Go.Shelf Go.Lib Go.Sort
attribute [local go_sem] Oper.semAt_some

def fz11 (W : World) (bb : Nat) : Prop := W.frozen? ⟨bb, 0, none⟩ = false ∧ W.frozen? ⟨bb, 1, none⟩ = false ∧ W.frozen? ⟨bb, 2, none⟩ = false ∧ W.frozen? ⟨bb, 3, none⟩ = false ∧ W.frozen? ⟨bb, 4, none⟩ = false ∧ W.frozen? ⟨bb, 5, none⟩ = false ∧ W.frozen? ⟨bb, 6, none⟩ = false ∧ W.frozen? ⟨bb, 7, none⟩ = false ∧ W.frozen? ⟨bb, 8, none⟩ = false ∧ W.frozen? ⟨bb, 9, none⟩ = false ∧ W.frozen? ⟨bb, 10, none⟩ = false
theorem fz_gro {W W1 : World} {bb : Nat} (hbb : bb < W.heap.size) (h : Gro W W1) (z : fz11 W bb) : fz11 W1 bb := by
  have hb := h.below
  obtain ⟨z0, z1, z2, z3, z4, z5, z6, z7, z8, z9, z10⟩ := z
  exact ⟨kf_below hb hbb z0, kf_below hb hbb z1, kf_below hb hbb z2, kf_below hb hbb z3, kf_below hb hbb z4, kf_below hb hbb z5, kf_below hb hbb z6, kf_below hb hbb z7, kf_below hb hbb z8, kf_below hb hbb z9, kf_below hb hbb z10⟩
theorem fz_put11 {W : World} {bb : Nat} (t : Tr) (z : fz11 W bb) : fz11 (put11 W bb t) bb := by
  obtain ⟨z0, z1, z2, z3, z4, z5, z6, z7, z8, z9, z10⟩ := z
  unfold fz11 put11
  refine ⟨?_, ?_, ?_, ?_, ?_, ?_, ?_, ?_, ?_, ?_, ?_⟩
  all_goals (repeat (first | with_reducible exact z0 | with_reducible exact z1 | with_reducible exact z2 | with_reducible exact z3 | with_reducible exact z4 | with_reducible exact z5 | with_reducible exact z6 | with_reducible exact z7 | with_reducible exact z8 | with_reducible exact z9 | with_reducible exact z10 | with_reducible rfl | with_reducible exact Below.refl _ _ | with_reducible exact gro_refl _ | with_reducible refine kc_drew ?_ | with_reducible refine kc_drewN _ ?_ | with_reducible refine kf_drew ?_ | with_reducible refine kf_drewN _ ?_ | ((with_reducible refine kc_new ?_ ?_); (focus (first | with_reducible rfl | (simp only [World.size_alloc, World.size_setCell, World.size_drew, size_drewN]; done))); (focus (first | rfl | (simp; done)))) | ((with_reducible refine kc_set0 ?_ ?_); (focus (first | rfl | (simp; done)))) | with_reducible exact ct_of (z0) | with_reducible exact ct_of (z1) | with_reducible exact ct_of (z2) | with_reducible exact ct_of (z3) | with_reducible exact ct_of (z4) | with_reducible exact ct_of (z5) | with_reducible exact ct_of (z6) | with_reducible exact ct_of (z7) | with_reducible exact ct_of (z8) | with_reducible exact ct_of (z9) | with_reducible exact ct_of (z10) | with_reducible refine ct_drew ?_ | with_reducible refine ct_drewN _ ?_ | ((with_reducible refine ct_new ?_ ?_); (focus (first | with_reducible rfl | (simp only [World.size_alloc, World.size_setCell, World.size_drew, size_drewN]; done))); (focus (first | rfl | (simp; done)))) | with_reducible refine ct_set _ _ ?_ | with_reducible refine ct_alloc _ ?_ | ((with_reducible refine kc_set ?_ ?_); (focus (first | (intro hx; injection hx; omega) | (simp; done)))) | with_reducible refine kc_alloc _ ?_ | ((with_reducible refine kf_new ?_ _); (focus (first | with_reducible rfl | (simp only [World.size_alloc, World.size_setCell, World.size_drew, size_drewN]; done)))) | with_reducible refine kf_set _ _ ?_ | ((with_reducible refine kf_alloc _ ?_ ?_); (focus (first | (simp only [World.size_alloc, World.size_setCell, World.size_drew, size_drewN]; omega) | (dsimp only; omega)))) | with_reducible refine bl_alloc ?_ _ | with_reducible refine bl_drew ?_ | with_reducible refine bl_drewN ?_ _ | ((with_reducible refine bl_set ?_ ?_ _); (focus (dsimp only; omega))) | with_reducible refine gro_alloc ?_ _ | with_reducible refine gro_drew ?_ | with_reducible refine gro_drewN ?_ _ | ((with_reducible refine gro_set ?_ ?_ _); (focus (first | omega | (dsimp only; omega))))))
theorem box_gro {W W1 : World} {b : Nat} {t : Tr} (h : Gro W W1) (k : box11 W b t) : box11 W1 b t := box_map k fun _ _ hv => kc_below h.below hv
theorem box_put {W : World} {b : Nat} {u : Tr} (t : Tr) (k : box11 W b u) : box11 (put11 W b t) b t := by
  obtain ⟨a0, a1, a2, a3, a4, a5, a6, a7, a8, a9, a10⟩ := k
  exact box_put11 t ⟨_, a0⟩ ⟨_, a1⟩ ⟨_, a2⟩ ⟨_, a3⟩ ⟨_, a4⟩ ⟨_, a5⟩ ⟨_, a6⟩ ⟨_, a7⟩ ⟨_, a8⟩ ⟨_, a9⟩ ⟨_, a10⟩

theorem bl_put11 {W W1 : World} {bb : Nat} (h : Below bb W W1) (t : Tr) : Below bb W (put11 W1 bb t) := by
  unfold put11
  iterate 11 (refine Below.setCell ?_ (show bb ≤ bb from Nat.le_refl _) _)
  exact h

set_option maxRecDepth 100000 in
theorem body_any (l n : Nat) (v0 v1 v3 v4 v5 v6 v7 v10 v11 v12 v13 v14 v15 v16 v17 v18 v19 v20 v21 v22 v23 v24 v25 v26 v27 v43 v44 v45 v46 v47 v48 : Value)
    (b0 bb bx : Nat) (tn td : Int) (t u : Tr) (W : World) (Q : Exit → Act → World → Prop)
    (h0 : W.cell? ⟨b0, 0, none⟩ = some (.int .i64 tn)) (h1 : W.cell? ⟨b0, 1, none⟩ = some (.int .i64 td)) (ht : t.ok) (hts : t.sok) (hus : u.sok) (hu : u = zeroTr ∨ 1 ≤ u.n)
    (hc : box11 W bx t) (hbb : bb < W.heap.size) (hg : box11 W bb u) (hz : fz11 W bb)
    (hQ : ∀ a' W', KeepsOthers W W' → KpB bb W W' → Below bb W W' → box11 W' bb (stepE tn td u t) → fz11 W' bb → Q .normal a' W') :
    Code.wpIn (Fence.wide.inRound l) n Try.prog bodyE Q ⟨#[v0, v1, .pointer (some ⟨b0, 0, none⟩), v3, v4, v5, v6, v7, .pointer (some ⟨bb, 0, none⟩), .pointer (some ⟨bx, 0, none⟩), v10, v11, v12, v13, v14, v15, v16, v17, v18, v19, v20, v21, v22, v23, v24, v25, v26, v27, undef, undef, undef, undef, undef, undef, undef, undef, undef, undef, undef, undef, undef, undef, undef, v43, v44, v45, v46, v47, v48], []⟩ W := by
  have hz' := hz
  have hg' := hg
  obtain ⟨c0, c1, c2, c3, c4, c5, c6, c7, c8, c9, c10⟩ := hc
  obtain ⟨z0, z1, z2, z3, z4, z5, z6, z7, z8, z9, z10⟩ := hz
  obtain ⟨g0, g1, g2, g3, g4, g5, g6, g7, g8, g9, g10⟩ := hg
  cases hr : isR tn td t with
  | false =>
    have es : stepE tn td u t = u := by unfold stepE; rw [hr]; simp
    rw [es] at hQ
    exact body_not l n _ _ _ _ _ _ _ _ _ _ _ _ _ _ _ _ _ _ _ _ _ _ _ _ _ _ _ _ _ _ _ b0 bb bx tn td t W Q h0 h1 ht hr c0 c1 c2 c3 c4 c5 c6 c7 c8 c9 c10 fun a' W' hw => hQ a' W' (ko_gro hw) (kp_gro hw) (hw.below.mono (Nat.le_of_lt hbb)) (box_gro hw hg') (fz_gro hbb hw hz')
  | true =>
    rcases hu with rfl | hu
    · have es : stepE tn td zeroTr t = t := by unfold stepE; rw [hr]; simp [zeroTr]
      rw [es] at hQ
      refine body_first l n _ _ _ _ _ _ _ _ _ _ _ _ _ _ _ _ _ _ _ _ _ _ _ _ _ _ _ _ _ _ _ b0 bb bx tn td t W Q h0 h1 ht hr hbb g0 z0 g1 z1 g2 z2 g3 z3 g4 z4 g5 z5 g6 z6 g7 z7 g8 z8 g9 z9 g10 z10 c0 c1 c2 c3 c4 c5 c6 c7 c8 c9 c10 ?_
      rintro a' W' ⟨w1, hw, rfl⟩
      exact hQ a' _ (ko_put11 hw t) (kp_put11 hw t) (bl_put11 (hw.below.mono (Nat.le_of_lt hbb)) t) (box_put t (box_gro hw hg')) (fz_put11 t (fz_gro hbb hw hz'))
    · have hn : (u.n == 0) = false := by simp; omega
      cases hb : betF t u with
      | true =>
        have es : stepE tn td u t = t := by unfold stepE; rw [hr, hb]; simp
        rw [es] at hQ
        refine body_yes l n _ _ _ _ _ _ _ _ _ _ _ _ _ _ _ _ _ _ _ _ _ _ _ _ _ _ _ _ _ _ _ b0 bb bx tn td t u W Q h0 h1 ht hr hbb hu hts hus hb g0 z0 g1 z1 g2 z2 g3 z3 g4 z4 g5 z5 g6 z6 g7 z7 g8 z8 g9 z9 g10 z10 c0 c1 c2 c3 c4 c5 c6 c7 c8 c9 c10 ?_
        rintro a' W' ⟨w1, hw, rfl⟩
        exact hQ a' _ (ko_put11 hw t) (kp_put11 hw t) (bl_put11 (hw.below.mono (Nat.le_of_lt hbb)) t) (box_put t (box_gro hw hg')) (fz_put11 t (fz_gro hbb hw hz'))
      | false =>
        have es : stepE tn td u t = u := by unfold stepE; rw [hr, hb, hn]; simp
        rw [es] at hQ
        exact body_no l n _ _ _ _ _ _ _ _ _ _ _ _ _ _ _ _ _ _ _ _ _ _ _ _ _ _ _ _ _ _ _ b0 bb bx tn td t u W Q h0 h1 ht hr hbb hu hts hus hb g0 z0 g1 z1 g2 z2 g3 z3 g4 z4 g5 z5 g6 z6 g7 z7 g8 z8 g9 z9 g10 z10 c0 c1 c2 c3 c4 c5 c6 c7 c8 c9 c10 fun a' W' hw => hQ a' W' (ko_gro hw) (kp_gro hw) (hw.below.mono (Nat.le_of_lt hbb)) (box_gro hw hg') (fz_gro hbb hw hz')
end Go.Proofs.Ytmigddempeecoaa
