/- Exact: the body of its loop over the trains. -/
import Derived.Test.YtmigddempeecoaaSeq
import Derived.Test.YtmigddempeecoaaSixty
import Derived.RangeFuncWrites
import Derived.RangeFuncFrom
namespace Go.Proofs.Ytmigddempeecoaa
set_option linter.unusedVariables false
set_option linter.unusedSimpArgs false
open Go.RowKit Go.Shelf Go.Lib Go.Sort
attribute [local go_sem] Oper.semAt_some undef

def firstRange : Code → Option Code
  | .rangeFunc _ _ _ b => some b
  | .loop c => firstRange c
  | .seq a b => match firstRange a with
    | some c => some c
    | none => firstRange b
  | .block _ c => firstRange c
  | .scope c => firstRange c
  | .cond _ a b => match firstRange a with
    | some c => some c
    | none => firstRange b
  | _ => none
noncomputable def bodyE : Code := ((Try.f49.body.bind firstRange).getD .skip)

/-- A train in a box. -/
def boxT (W : World) (b : Nat) (t : Tr) : Prop := ∀ i, i < 11 → W.cell? ⟨b, i, none⟩ = some (t.cells[i]!)

set_option maxHeartbeats 2000000 in
set_option maxRecDepth 100000 in
theorem body_not (l n : Nat) (v0 v1 v3 v4 v5 v6 v7 v10 v11 v12 v13 v14 v15 v16 v17 v18 v19 v20 v21 v22 v23 v24 v25 v26 v27 v43 v44 v45 v46 v47 v48 : Value)
    (b0 bb bx : Nat) (tn td : Int) (t : Tr) (W : World) (Q : Exit → Act → World → Prop)
    (h0 : W.cell? ⟨b0, 0, none⟩ = some (.int .i64 tn)) (h1 : W.cell? ⟨b0, 1, none⟩ = some (.int .i64 td)) (ht : t.ok) (hr : isR tn td t = false)
    (c0 : W.cell? ⟨bx, 0, none⟩ = some (.int .i64 t.n)) (c1 : W.cell? ⟨bx, 1, none⟩ = some (.int .i64 t.w.a)) (c2 : W.cell? ⟨bx, 2, none⟩ = some (.int .i64 t.w.b)) (c3 : W.cell? ⟨bx, 3, none⟩ = some (.int .i64 t.w.c)) (c4 : W.cell? ⟨bx, 4, none⟩ = some (.int .i64 t.w.p)) (c5 : W.cell? ⟨bx, 5, none⟩ = some (.int .i64 t.w.s))
    (c6 : W.cell? ⟨bx, 6, none⟩ = some (.int .i64 t.p.a)) (c7 : W.cell? ⟨bx, 7, none⟩ = some (.int .i64 t.p.b)) (c8 : W.cell? ⟨bx, 8, none⟩ = some (.int .i64 t.p.c)) (c9 : W.cell? ⟨bx, 9, none⟩ = some (.int .i64 t.p.p)) (c10 : W.cell? ⟨bx, 10, none⟩ = some (.int .i64 t.p.s))
    (hQ : ∀ a' W', Gro W W' → Q .normal a' W') :
    Code.wpIn (Fence.wide.inRound l) n Try.prog bodyE Q ⟨#[v0, v1, .pointer (some ⟨b0, 0, none⟩), v3, v4, v5, v6, v7, .pointer (some ⟨bb, 0, none⟩), .pointer (some ⟨bx, 0, none⟩), v10, v11, v12, v13, v14, v15, v16, v17, v18, v19, v20, v21, v22, v23, v24, v25, v26, v27, undef, undef, undef, undef, undef, undef, undef, undef, undef, undef, undef, undef, undef, undef, undef, v43, v44, v45, v46, v47, v48], []⟩ W := by
  obtain ⟨n', ⟨a, b, c, p, s⟩, ⟨a', b', c', p', s'⟩⟩ := t
  have hR := fun W => ratio_any ⟨n', ⟨a, b, c, p, s⟩, ⟨a', b', c', p', s'⟩⟩ W ht
  unfold isR at hr
  simp only [Tr.val, Tr.cells] at *
  generalize quoN p p' = x at *
  generalize quoD p p' = y at *
  have H := fun W => Lib.hid (hR W)
  clear hR ht
  by_cases hx : x = tn
  · have e1 : (x == tn) = true := by simpa using hx
    have hy : y ≠ td := by
      rintro rfl
      rw [e1] at hr
      simp at hr
    have e2 : (y == td) = false := by simpa using hy
    clear hr
    conv => arg 4; whnf
    gi_wp2_with fail
    gi_region_with ((first | (refine ⟨trivial, fun h => (by cases h), ?_⟩; refine (CallsIn.inRound l (callsIn_wide.2 (H _).out)).mono ?_; rintro e w1 ⟨rfl, hk1⟩; have hb1 := hk1.below; have k0 := kc_below hb1 h0; have k1 := kc_below hb1 h1; have f0 := kc_below hb1 c0; have f1 := kc_below hb1 c1; have f2 := kc_below hb1 c2; have f3 := kc_below hb1 c3; have f4 := kc_below hb1 c4; have f5 := kc_below hb1 c5; have f6 := kc_below hb1 c6; have f7 := kc_below hb1 c7; have f8 := kc_below hb1 c8; have f9 := kc_below hb1 c9; have f10 := kc_below hb1 c10) | (refine ⟨trivial, ?_⟩)))
    all_goals gi_wp2_with fail
    all_goals (repeat (first | with_reducible rfl | with_reducible exact Below.refl _ _ | with_reducible exact gro_refl _ | with_reducible refine kc_drew ?_ | with_reducible refine kc_drewN _ ?_ | with_reducible refine kf_drew ?_ | with_reducible refine kf_drewN _ ?_ | with_reducible refine kc_below hb1 ?_ | ((with_reducible refine kc_new ?_ ?_); (focus (first | with_reducible rfl | (simp only [World.size_alloc, World.size_setCell, World.size_drew, size_drewN]; done))); (focus (first | rfl | (simp; done)))) | ((with_reducible refine kc_set0 ?_ ?_); (focus (first | rfl | (simp; done)))) | with_reducible refine ct_drew ?_ | with_reducible refine ct_drewN _ ?_ | with_reducible refine ct_below hb1 ?_ | ((with_reducible refine ct_new ?_ ?_); (focus (first | with_reducible rfl | (simp only [World.size_alloc, World.size_setCell, World.size_drew, size_drewN]; done))); (focus (first | rfl | (simp; done)))) | with_reducible refine ct_set _ _ ?_ | with_reducible refine ct_alloc _ ?_ | ((with_reducible refine kc_set ?_ ?_); (focus (first | (intro hx; injection hx; omega) | (simp; done)))) | with_reducible refine kc_alloc _ ?_ | ((with_reducible refine kf_new ?_ _); (focus (first | with_reducible rfl | (simp only [World.size_alloc, World.size_setCell, World.size_drew, size_drewN]; done)))) | with_reducible refine kf_set _ _ ?_ | ((with_reducible refine kf_below hb1 ?_ ?_); (focus (simp only [World.size_alloc, World.size_setCell, World.size_drew, size_drewN]; omega))) | ((with_reducible refine kf_alloc _ ?_ ?_); (focus (first | (simp only [World.size_alloc, World.size_setCell, World.size_drew, size_drewN]; omega) | (dsimp only; omega)))) | with_reducible refine bl_alloc ?_ _ | with_reducible refine bl_drew ?_ | with_reducible refine bl_drewN ?_ _ | ((with_reducible refine bl_set ?_ ?_ _); (focus (dsimp only; omega))) | with_reducible refine bl_call ?_ hb1 | with_reducible refine gro_alloc ?_ _ | with_reducible refine gro_drew ?_ | with_reducible refine gro_drewN ?_ _ | ((with_reducible refine gro_set ?_ ?_ _); (focus (first | omega | (dsimp only; omega)))) | with_reducible refine gro_call ?_ hk1))
  · have e1 : (x == tn) = false := by simpa using hx
    clear hr
    conv => arg 4; whnf
    gi_wp2_with fail
    gi_region_with ((first | (refine ⟨trivial, fun h => (by cases h), ?_⟩; refine (CallsIn.inRound l (callsIn_wide.2 (H _).out)).mono ?_; rintro e w1 ⟨rfl, hk1⟩; have hb1 := hk1.below; have k0 := kc_below hb1 h0; have k1 := kc_below hb1 h1; have f0 := kc_below hb1 c0; have f1 := kc_below hb1 c1; have f2 := kc_below hb1 c2; have f3 := kc_below hb1 c3; have f4 := kc_below hb1 c4; have f5 := kc_below hb1 c5; have f6 := kc_below hb1 c6; have f7 := kc_below hb1 c7; have f8 := kc_below hb1 c8; have f9 := kc_below hb1 c9; have f10 := kc_below hb1 c10) | (refine ⟨trivial, ?_⟩)))
    all_goals gi_wp2_with fail
    all_goals (repeat (first | with_reducible rfl | with_reducible exact Below.refl _ _ | with_reducible exact gro_refl _ | with_reducible refine kc_drew ?_ | with_reducible refine kc_drewN _ ?_ | with_reducible refine kf_drew ?_ | with_reducible refine kf_drewN _ ?_ | with_reducible refine kc_below hb1 ?_ | ((with_reducible refine kc_new ?_ ?_); (focus (first | with_reducible rfl | (simp only [World.size_alloc, World.size_setCell, World.size_drew, size_drewN]; done))); (focus (first | rfl | (simp; done)))) | ((with_reducible refine kc_set0 ?_ ?_); (focus (first | rfl | (simp; done)))) | with_reducible refine ct_drew ?_ | with_reducible refine ct_drewN _ ?_ | with_reducible refine ct_below hb1 ?_ | ((with_reducible refine ct_new ?_ ?_); (focus (first | with_reducible rfl | (simp only [World.size_alloc, World.size_setCell, World.size_drew, size_drewN]; done))); (focus (first | rfl | (simp; done)))) | with_reducible refine ct_set _ _ ?_ | with_reducible refine ct_alloc _ ?_ | ((with_reducible refine kc_set ?_ ?_); (focus (first | (intro hx; injection hx; omega) | (simp; done)))) | with_reducible refine kc_alloc _ ?_ | ((with_reducible refine kf_new ?_ _); (focus (first | with_reducible rfl | (simp only [World.size_alloc, World.size_setCell, World.size_drew, size_drewN]; done)))) | with_reducible refine kf_set _ _ ?_ | ((with_reducible refine kf_below hb1 ?_ ?_); (focus (simp only [World.size_alloc, World.size_setCell, World.size_drew, size_drewN]; omega))) | ((with_reducible refine kf_alloc _ ?_ ?_); (focus (first | (simp only [World.size_alloc, World.size_setCell, World.size_drew, size_drewN]; omega) | (dsimp only; omega)))) | with_reducible refine bl_alloc ?_ _ | with_reducible refine bl_drew ?_ | with_reducible refine bl_drewN ?_ _ | ((with_reducible refine bl_set ?_ ?_ _); (focus (dsimp only; omega))) | with_reducible refine bl_call ?_ hb1 | with_reducible refine gro_alloc ?_ _ | with_reducible refine gro_drew ?_ | with_reducible refine gro_drewN ?_ _ | ((with_reducible refine gro_set ?_ ?_ _); (focus (first | omega | (dsimp only; omega)))) | with_reducible refine gro_call ?_ hk1))
end Go.Proofs.Ytmigddempeecoaa
