/- Exact: the body of its loop over the trains. -/
import Derived.Test.YtmigddempeecoaaBody
import Derived.Test.YtmigddempeecoaaSixty
import Derived.RangeFuncWrites
import Derived.RangeFuncFrom
namespace Go.Proofs.Ytmigddempeecoaa
set_option linter.unusedVariables false
set_option linter.unusedSimpArgs false
open Go.RowKit Go.Shelf Go.Lib Go.Sort
attribute [local go_sem] Oper.semAt_some undef

/-- A train stored into a box. -/
def put11 (W : World) (bb : Nat) (t : Tr) : World := ((((((((((W.setCell ⟨bb, 0, none⟩ (.int .i64 t.n)).setCell ⟨bb, 1, none⟩ (.int .i64 t.w.a)).setCell ⟨bb, 2, none⟩ (.int .i64 t.w.b)).setCell ⟨bb, 3, none⟩ (.int .i64 t.w.c)).setCell ⟨bb, 4, none⟩ (.int .i64 t.w.p)).setCell ⟨bb, 5, none⟩ (.int .i64 t.w.s)).setCell ⟨bb, 6, none⟩ (.int .i64 t.p.a)).setCell ⟨bb, 7, none⟩ (.int .i64 t.p.b)).setCell ⟨bb, 8, none⟩ (.int .i64 t.p.c)).setCell ⟨bb, 9, none⟩ (.int .i64 t.p.p)).setCell ⟨bb, 10, none⟩ (.int .i64 t.p.s)

set_option maxHeartbeats 2000000 in
set_option maxRecDepth 100000 in
theorem body_first (l n : Nat) (v0 v1 v3 v4 v5 v6 v7 v10 v11 v12 v13 v14 v15 v16 v17 v18 v19 v20 v21 v22 v23 v24 v25 v26 v27 v43 v44 v45 v46 v47 v48 : Value)
    (b0 bb bx : Nat) (tn td : Int) (t : Tr) (W : World) (Q : Exit → Act → World → Prop)
    (h0 : W.cell? ⟨b0, 0, none⟩ = some (.int .i64 tn)) (h1 : W.cell? ⟨b0, 1, none⟩ = some (.int .i64 td)) (ht : t.ok) (hr : isR tn td t = true) (hbb : bb < W.heap.size) (g0 : W.cell? ⟨bb, 0, none⟩ = some (.int .i64 0)) (z0 : W.frozen? ⟨bb, 0, none⟩ = false) (g1 : W.cell? ⟨bb, 1, none⟩ = some (.int .i64 0)) (z1 : W.frozen? ⟨bb, 1, none⟩ = false) (g2 : W.cell? ⟨bb, 2, none⟩ = some (.int .i64 0)) (z2 : W.frozen? ⟨bb, 2, none⟩ = false) (g3 : W.cell? ⟨bb, 3, none⟩ = some (.int .i64 0)) (z3 : W.frozen? ⟨bb, 3, none⟩ = false) (g4 : W.cell? ⟨bb, 4, none⟩ = some (.int .i64 0)) (z4 : W.frozen? ⟨bb, 4, none⟩ = false) (g5 : W.cell? ⟨bb, 5, none⟩ = some (.int .i64 0)) (z5 : W.frozen? ⟨bb, 5, none⟩ = false) (g6 : W.cell? ⟨bb, 6, none⟩ = some (.int .i64 0)) (z6 : W.frozen? ⟨bb, 6, none⟩ = false) (g7 : W.cell? ⟨bb, 7, none⟩ = some (.int .i64 0)) (z7 : W.frozen? ⟨bb, 7, none⟩ = false) (g8 : W.cell? ⟨bb, 8, none⟩ = some (.int .i64 0)) (z8 : W.frozen? ⟨bb, 8, none⟩ = false) (g9 : W.cell? ⟨bb, 9, none⟩ = some (.int .i64 0)) (z9 : W.frozen? ⟨bb, 9, none⟩ = false) (g10 : W.cell? ⟨bb, 10, none⟩ = some (.int .i64 0)) (z10 : W.frozen? ⟨bb, 10, none⟩ = false)
    (c0 : W.cell? ⟨bx, 0, none⟩ = some (.int .i64 t.n)) (c1 : W.cell? ⟨bx, 1, none⟩ = some (.int .i64 t.w.a)) (c2 : W.cell? ⟨bx, 2, none⟩ = some (.int .i64 t.w.b)) (c3 : W.cell? ⟨bx, 3, none⟩ = some (.int .i64 t.w.c)) (c4 : W.cell? ⟨bx, 4, none⟩ = some (.int .i64 t.w.p)) (c5 : W.cell? ⟨bx, 5, none⟩ = some (.int .i64 t.w.s))
    (c6 : W.cell? ⟨bx, 6, none⟩ = some (.int .i64 t.p.a)) (c7 : W.cell? ⟨bx, 7, none⟩ = some (.int .i64 t.p.b)) (c8 : W.cell? ⟨bx, 8, none⟩ = some (.int .i64 t.p.c)) (c9 : W.cell? ⟨bx, 9, none⟩ = some (.int .i64 t.p.p)) (c10 : W.cell? ⟨bx, 10, none⟩ = some (.int .i64 t.p.s))
    (hQ : ∀ a' W', (∃ w1, Gro W w1 ∧ W' = put11 w1 bb t) → Q .normal a' W') :
    Code.wpIn (Fence.wide.inRound l) n Try.prog bodyE Q ⟨#[v0, v1, .pointer (some ⟨b0, 0, none⟩), v3, v4, v5, v6, v7, .pointer (some ⟨bb, 0, none⟩), .pointer (some ⟨bx, 0, none⟩), v10, v11, v12, v13, v14, v15, v16, v17, v18, v19, v20, v21, v22, v23, v24, v25, v26, v27, undef, undef, undef, undef, undef, undef, undef, undef, undef, undef, undef, undef, undef, undef, undef, v43, v44, v45, v46, v47, v48], []⟩ W := by
  obtain ⟨n', ⟨a, b, c, p, s⟩, ⟨a', b', c', p', s'⟩⟩ := t
  have hR := fun W => ratio_any ⟨n', ⟨a, b, c, p, s⟩, ⟨a', b', c', p', s'⟩⟩ W ht
  unfold isR at hr
  simp only [Tr.val, Tr.cells] at *
  generalize quoN p p' = x at *
  generalize quoD p p' = y at *
  have H := fun W => Lib.hid (hR W)
  clear hR ht
  simp only [Bool.and_eq_true, beq_iff_eq] at hr
  obtain ⟨rfl, rfl⟩ := hr
  have e1 : (x == x) = true := by simp
  have e2 : (y == y) = true := by simp
  conv => arg 4; whnf
  gi_wp2_with fail
  gi_region_with ((first | (refine ⟨trivial, fun h => (by cases h), ?_⟩; refine (CallsIn.inRound l (callsIn_wide.2 (H _).out)).mono ?_; rintro e w1 ⟨rfl, hk1⟩; have hb1 := hk1.below; have k0 := kc_below hb1 h0; have k1 := kc_below hb1 h1; have f0 := kc_below hb1 c0; have f1 := kc_below hb1 c1; have f2 := kc_below hb1 c2; have f3 := kc_below hb1 c3; have f4 := kc_below hb1 c4; have f5 := kc_below hb1 c5; have f6 := kc_below hb1 c6; have f7 := kc_below hb1 c7; have f8 := kc_below hb1 c8; have f9 := kc_below hb1 c9; have f10 := kc_below hb1 c10; have hbw := (show bb < w1.heap.size from Nat.lt_of_lt_of_le hbb hb1.size); have gg0 := kc_below hb1 g0; have zz0 := kf_below hb1 hbb z0; have gg1 := kc_below hb1 g1; have zz1 := kf_below hb1 hbb z1; have gg2 := kc_below hb1 g2; have zz2 := kf_below hb1 hbb z2; have gg3 := kc_below hb1 g3; have zz3 := kf_below hb1 hbb z3; have gg4 := kc_below hb1 g4; have zz4 := kf_below hb1 hbb z4; have gg5 := kc_below hb1 g5; have zz5 := kf_below hb1 hbb z5; have gg6 := kc_below hb1 g6; have zz6 := kf_below hb1 hbb z6; have gg7 := kc_below hb1 g7; have zz7 := kf_below hb1 hbb z7; have gg8 := kc_below hb1 g8; have zz8 := kf_below hb1 hbb z8; have gg9 := kc_below hb1 g9; have zz9 := kf_below hb1 hbb z9; have gg10 := kc_below hb1 g10; have zz10 := kf_below hb1 hbb z10) | (refine ⟨trivial, ?_⟩)))
  all_goals gi_wp2_with fail
  all_goals exact ⟨w1, by (repeat (first | with_reducible rfl | with_reducible exact Below.refl _ _ | with_reducible exact gro_refl _ | with_reducible refine kc_drew ?_ | with_reducible refine kc_drewN _ ?_ | with_reducible refine kf_drew ?_ | with_reducible refine kf_drewN _ ?_ | with_reducible refine kc_below hb1 ?_ | ((with_reducible refine kc_new ?_ ?_); (focus (first | with_reducible rfl | (simp only [World.size_alloc, World.size_setCell, World.size_drew, size_drewN]; done))); (focus (first | rfl | (simp; done)))) | ((with_reducible refine kc_set0 ?_ ?_); (focus (first | rfl | (simp; done)))) | with_reducible refine ct_drew ?_ | with_reducible refine ct_drewN _ ?_ | with_reducible refine ct_below hb1 ?_ | ((with_reducible refine ct_new ?_ ?_); (focus (first | with_reducible rfl | (simp only [World.size_alloc, World.size_setCell, World.size_drew, size_drewN]; done))); (focus (first | rfl | (simp; done)))) | with_reducible refine ct_set _ _ ?_ | with_reducible refine ct_alloc _ ?_ | ((with_reducible refine kc_set ?_ ?_); (focus (first | (intro hx; injection hx; omega) | (simp; done)))) | with_reducible refine kc_alloc _ ?_ | ((with_reducible refine kf_new ?_ _); (focus (first | with_reducible rfl | (simp only [World.size_alloc, World.size_setCell, World.size_drew, size_drewN]; done)))) | with_reducible refine kf_set _ _ ?_ | ((with_reducible refine kf_below hb1 ?_ ?_); (focus (simp only [World.size_alloc, World.size_setCell, World.size_drew, size_drewN]; omega))) | ((with_reducible refine kf_alloc _ ?_ ?_); (focus (first | (simp only [World.size_alloc, World.size_setCell, World.size_drew, size_drewN]; omega) | (dsimp only; omega)))) | with_reducible refine bl_alloc ?_ _ | with_reducible refine bl_drew ?_ | with_reducible refine bl_drewN ?_ _ | ((with_reducible refine bl_set ?_ ?_ _); (focus (dsimp only; omega))) | with_reducible refine bl_call ?_ hb1 | with_reducible refine gro_alloc ?_ _ | with_reducible refine gro_drew ?_ | with_reducible refine gro_drewN ?_ _ | ((with_reducible refine gro_set ?_ ?_ _); (focus (first | omega | (dsimp only; omega)))) | with_reducible refine gro_call ?_ hk1)), rfl⟩
end Go.Proofs.Ytmigddempeecoaa
