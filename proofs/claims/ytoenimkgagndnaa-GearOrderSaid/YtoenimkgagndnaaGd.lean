/- Texts of one proof, joined: Put, BodyAll, Range, Round, Exact, ExactT, Lives. -/
import Derived.Test.YtoenimkgagndnaaGc
import Derived.RangeFuncNested
import Derived.RangeFuncWrites
import Derived.RangeFuncFrom
import Derived.RangeFuncLeaves
import Derived.Laws.ResultCell
import Derived.Test.YtoenimkgagndnaaGb
/- A train stored into a box: what stays, what is there. -/
namespace Go.Proofs.Ytoenimkgagndnaa
set_option linter.unusedVariables false
set_option linter.unusedSimpArgs false
open Go.RowKit Go.Shelf Go.Lib Go.Sort

theorem kp_refl (bb : Nat) (W : World) : KpB bb W W := ⟨Nat.le_refl _, fun _ _ _ _ _ _ => rfl⟩
theorem kp_gro {bb : Nat} {W W1 : World} (h : Gro W W1) : KpB bb W W1 := by
  have hb := h.below
  refine ⟨hb.size, fun k cs e fr _ hk => hb.block k ?_⟩
  exact (Array.getElem?_eq_some_iff.1 hk).1
theorem kp_set {bb o : Nat} (W : World) (u : Value) : KpB bb W (W.setCell ⟨bb, o, none⟩ u) := by
  refine ⟨by simp, fun k cs e fr hne hk => ?_⟩
  exact Below.heap_setCell W ⟨bb, o, none⟩ u k hne
theorem kp_put11 {bb : Nat} {W W1 : World} (h : Gro W W1) (t : Tr) : KpB bb W (put11 W1 bb t) := by
  unfold put11
  repeat (refine kp_trans ?_ (kp_set _ _))
  exact kp_gro h
theorem ko_gro {W W1 : World} (h : Gro W W1) : KeepsOthers W W1 := by
  have hb := h.below
  exact ⟨hb.size, fun k o hk _ => (hb.block k (Array.getElem?_eq_some_iff.1 hk).1).trans hk⟩
theorem ko_put11 {bb : Nat} {W W1 : World} (h : Gro W W1) (t : Tr) : KeepsOthers W (put11 W1 bb t) := by
  unfold put11
  repeat (refine KeepsOthers.trans ?_ (KeepsOthers.setCell _ _ _))
  exact ko_gro h
/-- A train lies in a box. -/
def box11 (W : World) (b : Nat) (t : Tr) : Prop := W.cell? ⟨b, 0, none⟩ = some (.int .i64 t.n) ∧ W.cell? ⟨b, 1, none⟩ = some (.int .i64 t.w.a) ∧ W.cell? ⟨b, 2, none⟩ = some (.int .i64 t.w.b) ∧ W.cell? ⟨b, 3, none⟩ = some (.int .i64 t.w.c) ∧ W.cell? ⟨b, 4, none⟩ = some (.int .i64 t.w.p) ∧ W.cell? ⟨b, 5, none⟩ = some (.int .i64 t.w.s) ∧ W.cell? ⟨b, 6, none⟩ = some (.int .i64 t.p.a) ∧ W.cell? ⟨b, 7, none⟩ = some (.int .i64 t.p.b) ∧ W.cell? ⟨b, 8, none⟩ = some (.int .i64 t.p.c) ∧ W.cell? ⟨b, 9, none⟩ = some (.int .i64 t.p.p) ∧ W.cell? ⟨b, 10, none⟩ = some (.int .i64 t.p.s)
theorem box_put11 {bb : Nat} {W1 : World} (t : Tr) (h0 : there W1 ⟨bb, 0, none⟩) (h1 : there W1 ⟨bb, 1, none⟩) (h2 : there W1 ⟨bb, 2, none⟩) (h3 : there W1 ⟨bb, 3, none⟩) (h4 : there W1 ⟨bb, 4, none⟩) (h5 : there W1 ⟨bb, 5, none⟩) (h6 : there W1 ⟨bb, 6, none⟩) (h7 : there W1 ⟨bb, 7, none⟩) (h8 : there W1 ⟨bb, 8, none⟩) (h9 : there W1 ⟨bb, 9, none⟩) (h10 : there W1 ⟨bb, 10, none⟩) : box11 (put11 W1 bb t) bb t := by
  unfold box11 put11
  refine ⟨?_, ?_, ?_, ?_, ?_, ?_, ?_, ?_, ?_, ?_, ?_⟩
  all_goals (repeat (first | with_reducible exact h0 | with_reducible exact h1 | with_reducible exact h2 | with_reducible exact h3 | with_reducible exact h4 | with_reducible exact h5 | with_reducible exact h6 | with_reducible exact h7 | with_reducible exact h8 | with_reducible exact h9 | with_reducible exact h10 | with_reducible rfl | with_reducible exact Below.refl _ _ | with_reducible exact gro_refl _ | with_reducible refine kc_drew ?_ | with_reducible refine kc_drewN _ ?_ | with_reducible refine kf_drew ?_ | with_reducible refine kf_drewN _ ?_ | ((with_reducible refine kc_new ?_ ?_); (focus (first | with_reducible rfl | (simp only [World.size_alloc, World.size_setCell, World.size_drew, size_drewN]; done))); (focus (first | rfl | (simp; done)))) | ((with_reducible refine kc_set0 ?_ ?_); (focus (first | rfl | (simp; done)))) | with_reducible exact ct_of (h0) | with_reducible exact ct_of (h1) | with_reducible exact ct_of (h2) | with_reducible exact ct_of (h3) | with_reducible exact ct_of (h4) | with_reducible exact ct_of (h5) | with_reducible exact ct_of (h6) | with_reducible exact ct_of (h7) | with_reducible exact ct_of (h8) | with_reducible exact ct_of (h9) | with_reducible exact ct_of (h10) | with_reducible refine ct_drew ?_ | with_reducible refine ct_drewN _ ?_ | ((with_reducible refine ct_new ?_ ?_); (focus (first | with_reducible rfl | (simp only [World.size_alloc, World.size_setCell, World.size_drew, size_drewN]; done))); (focus (first | rfl | (simp; done)))) | with_reducible refine ct_set _ _ ?_ | with_reducible refine ct_alloc _ ?_ | ((with_reducible refine kc_set ?_ ?_); (focus (first | (intro hx; injection hx; omega) | (simp; done)))) | with_reducible refine kc_alloc _ ?_ | ((with_reducible refine kf_new ?_ _); (focus (first | with_reducible rfl | (simp only [World.size_alloc, World.size_setCell, World.size_drew, size_drewN]; done)))) | with_reducible refine kf_set _ _ ?_ | ((with_reducible refine kf_alloc _ ?_ ?_); (focus (first | (simp only [World.size_alloc, World.size_setCell, World.size_drew, size_drewN]; omega) | (dsimp only; omega)))) | with_reducible refine bl_alloc ?_ _ | with_reducible refine bl_drew ?_ | with_reducible refine bl_drewN ?_ _ | ((with_reducible refine bl_set ?_ ?_ _); (focus (dsimp only; omega))) | with_reducible refine gro_alloc ?_ _ | with_reducible refine gro_drew ?_ | with_reducible refine gro_drewN ?_ _ | ((with_reducible refine gro_set ?_ ?_ _); (focus (first | omega | (dsimp only; omega))))))
theorem box_map {W W1 : World} {b : Nat} {t : Tr} (h : box11 W b t) (hk : ∀ i v, W.cell? ⟨b, i, none⟩ = some v → W1.cell? ⟨b, i, none⟩ = some v) : box11 W1 b t := by
  obtain ⟨a0, a1, a2, a3, a4, a5, a6, a7, a8, a9, a10⟩ := h
  exact ⟨hk _ _ a0, hk _ _ a1, hk _ _ a2, hk _ _ a3, hk _ _ a4, hk _ _ a5, hk _ _ a6, hk _ _ a7, hk _ _ a8, hk _ _ a9, hk _ _ a10⟩
end Go.Proofs.Ytoenimkgagndnaa

/- Exact: the body of its loop, in one. -/
namespace Go.Proofs.Ytoenimkgagndnaa
set_option linter.unusedVariables false
set_option linter.unusedSimpArgs false
open Go.RowKit Go.Shelf Go.Lib Go.Sort
attribute [local go_sem] Oper.semAt_some

def fz11 (W : World) (bb : Nat) : Prop := W.frozen? ⟨bb, 0, none⟩ = false ∧ W.frozen? ⟨bb, 1, none⟩ = false ∧ W.frozen? ⟨bb, 2, none⟩ = false ∧ W.frozen? ⟨bb, 3, none⟩ = false ∧ W.frozen? ⟨bb, 4, none⟩ = false ∧ W.frozen? ⟨bb, 5, none⟩ = false ∧ W.frozen? ⟨bb, 6, none⟩ = false ∧ W.frozen? ⟨bb, 7, none⟩ = false ∧ W.frozen? ⟨bb, 8, none⟩ = false ∧ W.frozen? ⟨bb, 9, none⟩ = false ∧ W.frozen? ⟨bb, 10, none⟩ = false
theorem fz_gro {W W1 : World} {bb : Nat} (hbb : bb < W.heap.size) (h : Gro W W1) (z : fz11 W bb) : fz11 W1 bb := by
  have hb := h.below
  obtain ⟨z0, z1, z2, z3, z4, z5, z6, z7, z8, z9, z10⟩ := z
  exact ⟨kf_below hb hbb z0, kf_below hb hbb z1, kf_below hb hbb z2, kf_below hb hbb z3, kf_below hb hbb z4, kf_below hb hbb z5, kf_below hb hbb z6, kf_below hb hbb z7, kf_below hb hbb z8, kf_below hb hbb z9, kf_below hb hbb z10⟩
theorem fz_put11 {W : World} {bb : Nat} (t : Tr) (z : fz11 W bb) : fz11 (put11 W bb t) bb := by
  obtain ⟨z0, z1, z2, z3, z4, z5, z6, z7, z8, z9, z10⟩ := z
  unfold fz11 put11
  refine ⟨?_, ?_, ?_, ?_, ?_, ?_, ?_, ?_, ?_, ?_, ?_⟩
  all_goals (repeat (first | with_reducible exact z0 | with_reducible exact z1 | with_reducible exact z2 | with_reducible exact z3 | with_reducible exact z4 | with_reducible exact z5 | with_reducible exact z6 | with_reducible exact z7 | with_reducible exact z8 | with_reducible exact z9 | with_reducible exact z10 | with_reducible rfl | with_reducible exact Below.refl _ _ | with_reducible exact gro_refl _ | with_reducible refine kc_drew ?_ | with_reducible refine kc_drewN _ ?_ | with_reducible refine kf_drew ?_ | with_reducible refine kf_drewN _ ?_ | ((with_reducible refine kc_new ?_ ?_); (focus (first | with_reducible rfl | (simp only [World.size_alloc, World.size_setCell, World.size_drew, size_drewN]; done))); (focus (first | rfl | (simp; done)))) | ((with_reducible refine kc_set0 ?_ ?_); (focus (first | rfl | (simp; done)))) | with_reducible exact ct_of (z0) | with_reducible exact ct_of (z1) | with_reducible exact ct_of (z2) | with_reducible exact ct_of (z3) | with_reducible exact ct_of (z4) | with_reducible exact ct_of (z5) | with_reducible exact ct_of (z6) | with_reducible exact ct_of (z7) | with_reducible exact ct_of (z8) | with_reducible exact ct_of (z9) | with_reducible exact ct_of (z10) | with_reducible refine ct_drew ?_ | with_reducible refine ct_drewN _ ?_ | ((with_reducible refine ct_new ?_ ?_); (focus (first | with_reducible rfl | (simp only [World.size_alloc, World.size_setCell, World.size_drew, size_drewN]; done))); (focus (first | rfl | (simp; done)))) | with_reducible refine ct_set _ _ ?_ | with_reducible refine ct_alloc _ ?_ | ((with_reducible refine kc_set ?_ ?_); (focus (first | (intro hx; injection hx; omega) | (simp; done)))) | with_reducible refine kc_alloc _ ?_ | ((with_reducible refine kf_new ?_ _); (focus (first | with_reducible rfl | (simp only [World.size_alloc, World.size_setCell, World.size_drew, size_drewN]; done)))) | with_reducible refine kf_set _ _ ?_ | ((with_reducible refine kf_alloc _ ?_ ?_); (focus (first | (simp only [World.size_alloc, World.size_setCell, World.size_drew, size_drewN]; omega) | (dsimp only; omega)))) | with_reducible refine bl_alloc ?_ _ | with_reducible refine bl_drew ?_ | with_reducible refine bl_drewN ?_ _ | ((with_reducible refine bl_set ?_ ?_ _); (focus (dsimp only; omega))) | with_reducible refine gro_alloc ?_ _ | with_reducible refine gro_drew ?_ | with_reducible refine gro_drewN ?_ _ | ((with_reducible refine gro_set ?_ ?_ _); (focus (first | omega | (dsimp only; omega))))))
theorem box_gro {W W1 : World} {b : Nat} {t : Tr} (h : Gro W W1) (k : box11 W b t) : box11 W1 b t := box_map k fun _ _ hv => kc_below h.below hv
theorem box_put {W : World} {b : Nat} {u : Tr} (t : Tr) (k : box11 W b u) : box11 (put11 W b t) b t := by
  obtain ⟨a0, a1, a2, a3, a4, a5, a6, a7, a8, a9, a10⟩ := k
  exact box_put11 t ⟨_, a0⟩ ⟨_, a1⟩ ⟨_, a2⟩ ⟨_, a3⟩ ⟨_, a4⟩ ⟨_, a5⟩ ⟨_, a6⟩ ⟨_, a7⟩ ⟨_, a8⟩ ⟨_, a9⟩ ⟨_, a10⟩

theorem bl_put11 {W W1 : World} {bb : Nat} (h : Below bb W W1) (t : Tr) : Below bb W (put11 W1 bb t) := by
  unfold put11
  iterate 11 (refine Below.setCell ?_ (show bb ≤ bb from Nat.le_refl _) _)
  exact h

set_option maxRecDepth 100000 in
theorem body_any (l n : Nat) (v0 v1 v3 v4 v5 v6 v7 v10 v11 v12 v13 v14 v15 v16 v17 v18 v19 v20 v21 v22 v23 v24 v25 v26 v27 v43 v44 v45 v46 v47 v48 : Value)
    (b0 bb bx : Nat) (tn td : Int) (t u : Tr) (W : World) (Q : Exit → Act → World → Prop)
    (h0 : W.cell? ⟨b0, 0, none⟩ = some (.int .i64 tn)) (h1 : W.cell? ⟨b0, 1, none⟩ = some (.int .i64 td)) (ht : t.ok) (hts : t.sok) (hus : u.sok) (hu : u = zeroTr ∨ 1 ≤ u.n)
    (hc : box11 W bx t) (hbb : bb < W.heap.size) (hg : box11 W bb u) (hz : fz11 W bb)
    (hQ : ∀ a' W', KeepsOthers W W' → KpB bb W W' → Below bb W W' → box11 W' bb (stepE tn td u t) → fz11 W' bb → Q .normal a' W') :
    Code.wpIn (Fence.wide.inRound l) n Try.prog bodyE Q ⟨#[v0, v1, .pointer (some ⟨b0, 0, none⟩), v3, v4, v5, v6, v7, .pointer (some ⟨bb, 0, none⟩), .pointer (some ⟨bx, 0, none⟩), v10, v11, v12, v13, v14, v15, v16, v17, v18, v19, v20, v21, v22, v23, v24, v25, v26, v27, undef, undef, undef, undef, undef, undef, undef, undef, undef, undef, undef, undef, undef, undef, undef, v43, v44, v45, v46, v47, v48], []⟩ W := by
  have hz' := hz
  have hg' := hg
  obtain ⟨c0, c1, c2, c3, c4, c5, c6, c7, c8, c9, c10⟩ := hc
  obtain ⟨z0, z1, z2, z3, z4, z5, z6, z7, z8, z9, z10⟩ := hz
  obtain ⟨g0, g1, g2, g3, g4, g5, g6, g7, g8, g9, g10⟩ := hg
  cases hr : isR tn td t with
  | false =>
    have es : stepE tn td u t = u := by unfold stepE; rw [hr]; simp
    rw [es] at hQ
    exact body_not l n _ _ _ _ _ _ _ _ _ _ _ _ _ _ _ _ _ _ _ _ _ _ _ _ _ _ _ _ _ _ _ b0 bb bx tn td t W Q h0 h1 ht hr c0 c1 c2 c3 c4 c5 c6 c7 c8 c9 c10 fun a' W' hw => hQ a' W' (ko_gro hw) (kp_gro hw) (hw.below.mono (Nat.le_of_lt hbb)) (box_gro hw hg') (fz_gro hbb hw hz')
  | true =>
    rcases hu with rfl | hu
    · have es : stepE tn td zeroTr t = t := by unfold stepE; rw [hr]; simp [zeroTr]
      rw [es] at hQ
      refine body_first l n _ _ _ _ _ _ _ _ _ _ _ _ _ _ _ _ _ _ _ _ _ _ _ _ _ _ _ _ _ _ _ b0 bb bx tn td t W Q h0 h1 ht hr hbb g0 z0 g1 z1 g2 z2 g3 z3 g4 z4 g5 z5 g6 z6 g7 z7 g8 z8 g9 z9 g10 z10 c0 c1 c2 c3 c4 c5 c6 c7 c8 c9 c10 ?_
      rintro a' W' ⟨w1, hw, rfl⟩
      exact hQ a' _ (ko_put11 hw t) (kp_put11 hw t) (bl_put11 (hw.below.mono (Nat.le_of_lt hbb)) t) (box_put t (box_gro hw hg')) (fz_put11 t (fz_gro hbb hw hz'))
    · have hn : (u.n == 0) = false := by simp; omega
      cases hb : betF t u with
      | true =>
        have es : stepE tn td u t = t := by unfold stepE; rw [hr, hb]; simp
        rw [es] at hQ
        refine body_yes l n _ _ _ _ _ _ _ _ _ _ _ _ _ _ _ _ _ _ _ _ _ _ _ _ _ _ _ _ _ _ _ b0 bb bx tn td t u W Q h0 h1 ht hr hbb hu hts hus hb g0 z0 g1 z1 g2 z2 g3 z3 g4 z4 g5 z5 g6 z6 g7 z7 g8 z8 g9 z9 g10 z10 c0 c1 c2 c3 c4 c5 c6 c7 c8 c9 c10 ?_
        rintro a' W' ⟨w1, hw, rfl⟩
        exact hQ a' _ (ko_put11 hw t) (kp_put11 hw t) (bl_put11 (hw.below.mono (Nat.le_of_lt hbb)) t) (box_put t (box_gro hw hg')) (fz_put11 t (fz_gro hbb hw hz'))
      | false =>
        have es : stepE tn td u t = u := by unfold stepE; rw [hr, hb, hn]; simp
        rw [es] at hQ
        exact body_no l n _ _ _ _ _ _ _ _ _ _ _ _ _ _ _ _ _ _ _ _ _ _ _ _ _ _ _ _ _ _ _ b0 bb bx tn td t u W Q h0 h1 ht hr hbb hu hts hus hb g0 z0 g1 z1 g2 z2 g3 z3 g4 z4 g5 z5 g6 z6 g7 z7 g8 z8 g9 z9 g10 z10 c0 c1 c2 c3 c4 c5 c6 c7 c8 c9 c10 fun a' W' hw => hQ a' W' (ko_gro hw) (kp_gro hw) (hw.below.mono (Nat.le_of_lt hbb)) (box_gro hw hg') (fz_gro hbb hw hz')
end Go.Proofs.Ytoenimkgagndnaa

/- Exact: its range over the trains, at any frame. -/
namespace Go.Proofs.Ytoenimkgagndnaa
set_option linter.unusedVariables false
set_option linter.unusedSimpArgs false
open Go.RowKit Go.Shelf Go.Lib Go.Sort
attribute [local go_sem] Oper.semAt_some

def wholeRange : Code → Option Code
  | .rangeFunc g ps a b => some (.rangeFunc g ps a b)
  | .loop c => wholeRange c
  | .seq a b => match wholeRange a with
    | some c => some c
    | none => wholeRange b
  | .block _ c => wholeRange c
  | .scope c => wholeRange c
  | .cond _ a b => match wholeRange a with
    | some c => some c
    | none => wholeRange b
  | _ => none
noncomputable def rangeE : Code := ((Try.f49.body.bind wholeRange).getD .skip)

/-- What Exact picks among the trains of so many stages. -/
def bestS (tn td wl wh pl ph : Int) (st : Nat) : Tr := bestE tn td (trainsL st (sidesL wl wh st false) (sidesL pl ph st true) tn td)

set_option maxHeartbeats 2000000 in
set_option maxRecDepth 100000 in
theorem range_any (v0 v1 v3 v4 v5 v6 v7 v9 v10 v11 v12 v13 v14 v15 v16 v17 v18 v19 v20 v21 v22 v23 v24 v25 v27 v43 v44 v45 v46 v47 v48 : Value) (ds : List Deferred)
    (b0 bb bl bs bt : Nat) (tn td wl wh pl ph : Int) (st : Nat) (w : World) (Q : Exit → Act → World → Prop)
    (hcap : Cap w bl bs bt wl wh pl ph st tn td) (hbb : bb < w.heap.size) (n0 : b0 ≠ bb) (nl : bl ≠ bb) (ns : bs ≠ bb) (nt : bt ≠ bb)
    (h0 : w.cell? ⟨b0, 0, none⟩ = some (.int .i64 tn)) (h1 : w.cell? ⟨b0, 1, none⟩ = some (.int .i64 td))
    (w1 : 1 ≤ wl) (w2 : wl ≤ wh) (w3 : wh ≤ 200) (w4 : wh - wl < 64) (p1 : 1 ≤ pl) (p2 : pl ≤ ph) (p3 : ph ≤ 200) (p4 : ph - pl < 64) (hst : st ≤ 3) (hst1 : 1 ≤ st)
    (ht : -4611686018427387904 ≤ tn) (ht' : tn ≤ 4611686018427387904) (hu : 1 ≤ td) (hu' : td ≤ 4611686018427387904)
    (bo : box11 w bb zeroTr) (fo : fz11 w bb)
    (hQ : ∀ D W', w.heap.size ≤ D → Below bb w W' → KpB bb w W' → box11 W' bb (bestS tn td wl wh pl ph st) → fz11 W' bb → W'.heap[D]? = some (.deferred (some [])) → Q .normal ⟨#[v0, v1, .pointer (some ⟨b0, 0, none⟩), v3, v4, v5, v6, v7, .pointer (some ⟨bb, 0, none⟩), v9, v10, v11, v12, v13, v14, v15, v16, v17, v18, v19, v20, v21, v22, v23, v24, v25,
      .func (.func 104) #[] #[.pointer (some ⟨bl, 0, none⟩), .pointer (some ⟨bs, 0, none⟩), .pointer (some ⟨bt, 0, none⟩)], v27, undef, undef, undef, undef, undef, undef, undef, undef, undef, undef, undef, undef, undef, undef, undef, v43, v44, v45, v46, v47, v48], { target := .collected D, args := #[] } :: ds⟩ W') :
    Code.wpIn Fence.wide 6 Try.prog rangeE Q ⟨#[v0, v1, .pointer (some ⟨b0, 0, none⟩), v3, v4, v5, v6, v7, .pointer (some ⟨bb, 0, none⟩), v9, v10, v11, v12, v13, v14, v15, v16, v17, v18, v19, v20, v21, v22, v23, v24, v25,
      .func (.func 104) #[] #[.pointer (some ⟨bl, 0, none⟩), .pointer (some ⟨bs, 0, none⟩), .pointer (some ⟨bt, 0, none⟩)], v27, undef, undef, undef, undef, undef, undef, undef, undef, undef, undef, undef, undef, undef, undef, undef, v43, v44, v45, v46, v47, v48], ds⟩ w := by
  conv => arg 4; whnf
  refine wpIn_rangeFunc_ownH rfl (by decide) (gf := 104) (lb := #[.pointer (some ⟨bl, 0, none⟩), .pointer (some ⟨bs, 0, none⟩), .pointer (some ⟨bt, 0, none⟩)]) rfl trivial (enters_of Try.func104 (by kernel_rfl) rfl)
    (trains_stops 5 (by decide) bb bl bs bt wl wh pl ph st tn td w hcap hbb nl ns nt w1 w2 w3 w4 p1 p2 p3 p4 hst hst1 ht ht' hu hu')
    kp_trans (fun W l o o' hl ho hc _ => kp_put W l o o' ho hc) (Below.refl _ _) (fun _ => rfl)
    (fun pre W => box11 W bb (bestE tn td (pre.map clampT)) ∧ fz11 W bb ∧ KpB bb w W ∧ Below bb w W) (fun _ _ _ => False) ?hI ?hIx ⟨bo, fo, kp_refl _ _, Below.refl _ _⟩
    (fun x a' W => ∃ Bx, w.heap.size ≤ Bx ∧ box11 W Bx (clampT x) ∧ a' = ⟨#[v0, v1, .pointer (some ⟨b0, 0, none⟩), v3, v4, v5, v6, v7, .pointer (some ⟨bb, 0, none⟩), .pointer (some ⟨Bx, 0, none⟩), v10, v11, v12, v13, v14, v15, v16, v17, v18, v19, v20, v21, v22, v23, v24, v25,
      .func (.func 104) #[] #[.pointer (some ⟨bl, 0, none⟩), .pointer (some ⟨bs, 0, none⟩), .pointer (some ⟨bt, 0, none⟩)], (clampT x).val, undef, undef, undef, undef, undef, undef, undef, undef, undef, undef, undef, undef, undef, undef, undef, v43, v44, v45, v46, v47, v48], []⟩) ?hAx ?assign ?body ?done ?stop
  case hI =>
    rintro s A B row ⟨hb, hf, hk, hbl⟩ hg hr
    have hr' := fun r e => (hr r e).2
    have kq : KpB bb A B := ⟨hg.size, fun k cs e fr _ h => grownBy_keeps_cells hg hr' h rfl⟩
    have hb' := hb
    obtain ⟨g0, g1, g2, g3, g4, g5, g6, g7, g8, g9, g10⟩ := hb
    obtain ⟨z0, z1, z2, z3, z4, z5, z6, z7, z8, z9, z10⟩ := hf
    exact ⟨box_map hb' fun _ _ hv => cell_kept hv hg hr', ⟨(frozen_kept g0 hg hr').trans z0, (frozen_kept g1 hg hr').trans z1, (frozen_kept g2 hg hr').trans z2, (frozen_kept g3 hg hr').trans z3, (frozen_kept g4 hg hr').trans z4, (frozen_kept g5 hg hr').trans z5, (frozen_kept g6 hg hr').trans z6, (frozen_kept g7 hg hr').trans z7, (frozen_kept g8 hg hr').trans z8, (frozen_kept g9 hg hr').trans z9, (frozen_kept g10 hg hr').trans z10⟩, kp_trans hk kq,
      hbl.grown hg (Nat.le_of_lt (Nat.lt_of_lt_of_le hbb hbl.size)) (fun r e => Nat.le_of_lt (Nat.lt_of_lt_of_le hbb (hr r e).1))⟩
  case hAx =>
    rintro x a' s A B row ⟨Bx, hB, hx, ha⟩ hg hr
    exact ⟨Bx, hB, box_map hx fun _ _ hv => cell_kept hv hg (fun r e => (hr r e).2), ha⟩
  case hIx => exact fun _ _ _ _ _ hs _ _ => hs
  case stop =>
    rintro D c pre W _ _ h _
    exact h.elim
  case body =>
    rintro l pre x a' W hl ⟨r, hr⟩ ⟨hb, hf, hk, hbl⟩ ⟨Bx, hBx, hx, rfl⟩ hlt
    have hcl := clamp_ok x
    have hbc := best_clamp tn td pre
    have et0 := kp_cell hk (a := ⟨b0, 0, none⟩) (v := .int .i64 tn) n0 h0
    have et1 := kp_cell hk (a := ⟨b0, 1, none⟩) (v := .int .i64 td) n0 h1
    refine body_any l _ _ _ _ _ _ _ _ _ _ _ _ _ _ _ _ _ _ _ _ _ _ _ _ _ _ _ _ _ _ _ _ b0 bb Bx tn td (clampT x) (bestE tn td (pre.map clampT)) W _ et0 et1 hcl.1 hcl.2.1 hbc.1 hbc.2 hx (Nat.lt_of_lt_of_le hbb hk.1) hb hf ?_
    intro a' W' hko hkp hkb hbx hfz
    refine ⟨hko.from _, hkp, ?_, hfz, kp_trans hk hkp, hbl.trans hkb⟩
    rw [List.map_append, List.map_singleton, bestE_snoc]
    exact hbx
  case assign =>
    intro l pre x W K ⟨hb, hf, hk, hbl⟩ hK
    have hbW := Nat.lt_of_lt_of_le hbb hk.1
    have key : ∀ W', Below W.heap.size W W' → KeepsFrom w.heap.size W W' ∧ KpB bb W W' ∧ (box11 W' bb (bestE tn td (pre.map clampT)) ∧ fz11 W' bb ∧ KpB bb w W' ∧ Below bb w W') := fun W' hB => by
      have k1 : KpB bb W W' := ⟨hB.size, fun k cs e fr _ hh => hB.block k (Array.getElem?_eq_some_iff.1 hh).1⟩
      have k2 : KeepsOthers W W' := ⟨hB.size, fun k o hh _ => (hB.block k (Array.getElem?_eq_some_iff.1 hh).1).trans hh⟩
      obtain ⟨z0, z1, z2, z3, z4, z5, z6, z7, z8, z9, z10⟩ := hf
      exact ⟨k2.from _, k1, box_map hb fun _ _ hv => kc_below hB hv, ⟨kf_below hB hbW z0, kf_below hB hbW z1, kf_below hB hbW z2, kf_below hB hbW z3, kf_below hB hbW z4, kf_below hB hbW z5, kf_below hB hbW z6, kf_below hB hbW z7, kf_below hB hbW z8, kf_below hB hbW z9, kf_below hB hbW z10⟩, kp_trans hk k1, hbl.trans (hB.mono (Nat.le_of_lt hbW))⟩
    have hle := hk.1
    clear hb hf hk hbl hQ hcap h0 h1 bo fo
    generalize clampT x = y at hK ⊢
    obtain ⟨n', ⟨a, b, c, p, s⟩, ⟨a', b', c', p', s'⟩⟩ := y
    simp only [Tr.val, Tr.cells] at hK ⊢
    gi_wp2_with fail
    refine (fun hBB hx => hK _ _ (key _ hBB).1 (key _ hBB).2.1 (key _ hBB).2.2 ⟨W.heap.size, hle, hx, rfl⟩) ?_ ?_
    · (repeat (first | with_reducible rfl | with_reducible exact Below.refl _ _ | with_reducible exact gro_refl _ | with_reducible refine kc_drew ?_ | with_reducible refine kc_drewN _ ?_ | with_reducible refine kf_drew ?_ | with_reducible refine kf_drewN _ ?_ | ((with_reducible refine kc_new ?_ ?_); (focus (first | with_reducible rfl | (simp only [World.size_alloc, World.size_setCell, World.size_drew, size_drewN]; done))); (focus (first | rfl | (simp; done)))) | ((with_reducible refine kc_set0 ?_ ?_); (focus (first | rfl | (simp; done)))) | with_reducible refine ct_drew ?_ | with_reducible refine ct_drewN _ ?_ | ((with_reducible refine ct_new ?_ ?_); (focus (first | with_reducible rfl | (simp only [World.size_alloc, World.size_setCell, World.size_drew, size_drewN]; done))); (focus (first | rfl | (simp; done)))) | with_reducible refine ct_set _ _ ?_ | with_reducible refine ct_alloc _ ?_ | ((with_reducible refine kc_set ?_ ?_); (focus (first | (intro hx; injection hx; omega) | (simp; done)))) | with_reducible refine kc_alloc _ ?_ | ((with_reducible refine kf_new ?_ _); (focus (first | with_reducible rfl | (simp only [World.size_alloc, World.size_setCell, World.size_drew, size_drewN]; done)))) | with_reducible refine kf_set _ _ ?_ | ((with_reducible refine kf_alloc _ ?_ ?_); (focus (first | (simp only [World.size_alloc, World.size_setCell, World.size_drew, size_drewN]; omega) | (dsimp only; omega)))) | with_reducible refine bl_alloc ?_ _ | with_reducible refine bl_drew ?_ | with_reducible refine bl_drewN ?_ _ | ((with_reducible refine bl_set ?_ ?_ _); (focus (dsimp only; omega))) | with_reducible refine gro_alloc ?_ _ | with_reducible refine gro_drew ?_ | with_reducible refine gro_drewN ?_ _ | ((with_reducible refine gro_set ?_ ?_ _); (focus (first | omega | (dsimp only; omega))))))
    · unfold box11
      refine ⟨?_, ?_, ?_, ?_, ?_, ?_, ?_, ?_, ?_, ?_, ?_⟩
      all_goals (repeat (first | with_reducible rfl | with_reducible exact Below.refl _ _ | with_reducible exact gro_refl _ | with_reducible refine kc_drew ?_ | with_reducible refine kc_drewN _ ?_ | with_reducible refine kf_drew ?_ | with_reducible refine kf_drewN _ ?_ | ((with_reducible refine kc_new ?_ ?_); (focus (first | with_reducible rfl | (simp only [World.size_alloc, World.size_setCell, World.size_drew, size_drewN]; done))); (focus (first | rfl | (simp; done)))) | ((with_reducible refine kc_set0 ?_ ?_); (focus (first | rfl | (simp; done)))) | with_reducible refine ct_drew ?_ | with_reducible refine ct_drewN _ ?_ | ((with_reducible refine ct_new ?_ ?_); (focus (first | with_reducible rfl | (simp only [World.size_alloc, World.size_setCell, World.size_drew, size_drewN]; done))); (focus (first | rfl | (simp; done)))) | with_reducible refine ct_set _ _ ?_ | with_reducible refine ct_alloc _ ?_ | ((with_reducible refine kc_set ?_ ?_); (focus (first | (intro hx; injection hx; omega) | (simp; done)))) | with_reducible refine kc_alloc _ ?_ | ((with_reducible refine kf_new ?_ _); (focus (first | with_reducible rfl | (simp only [World.size_alloc, World.size_setCell, World.size_drew, size_drewN]; done)))) | with_reducible refine kf_set _ _ ?_ | ((with_reducible refine kf_alloc _ ?_ ?_); (focus (first | (simp only [World.size_alloc, World.size_setCell, World.size_drew, size_drewN]; omega) | (dsimp only; omega)))) | with_reducible refine bl_alloc ?_ _ | with_reducible refine bl_drew ?_ | with_reducible refine bl_drewN ?_ _ | ((with_reducible refine bl_set ?_ ?_ _); (focus (dsimp only; omega))) | with_reducible refine gro_alloc ?_ _ | with_reducible refine gro_drew ?_ | with_reducible refine gro_drewN ?_ _ | ((with_reducible refine gro_set ?_ ?_ _); (focus (first | omega | (dsimp only; omega))))))
  case done =>
    rintro D xs W hD rfl ⟨hb, hf, hk, hbl⟩ hd
    rw [map_clamp (clamp_mem w1 w2 w3 p1 p2 p3 hst hst1 tn td)] at hb
    exact hQ D W hD hbl hk hb hf hd
end Go.Proofs.Ytoenimkgagndnaa

/- Exact: a round of its loop. -/
namespace Go.Proofs.Ytoenimkgagndnaa
set_option linter.unusedVariables false
set_option linter.unusedSimpArgs false
open Go.RowKit Go.Shelf Go.Lib Go.Sort
attribute [local go_sem] Oper.semAt_some

def firstLoop : Code → Option Code
  | .loop c => some c
  | .seq a b => match firstLoop a with
    | some c => some c
    | none => firstLoop b
  | .block _ c => firstLoop c
  | .scope c => firstLoop c
  | .cond _ a b => match firstLoop a with
    | some c => some c
    | none => firstLoop b
  | _ => none
noncomputable def loopE : Code := ((Try.f49.body.bind firstLoop).getD .skip)

/-- What stands in memory at a round's head. -/
structure Head (B : Nat) (tn td wl wh pl ph k : Int) (W : World) : Prop where
  t0 : W.cell? ⟨B, 0, none⟩ = some (.int .i64 tn)
  t1 : W.cell? ⟨B, 1, none⟩ = some (.int .i64 td)
  l0 : W.cell? ⟨B + 1, 0, none⟩ = some (.int .i64 wl)
  l1 : W.cell? ⟨B + 1, 1, none⟩ = some (.int .i64 wh)
  l2 : W.cell? ⟨B + 1, 2, none⟩ = some (.int .i64 pl)
  l3 : W.cell? ⟨B + 1, 3, none⟩ = some (.int .i64 ph)
  l4 : W.cell? ⟨B + 1, 4, none⟩ = some (.int .i64 k)
  r0 : W.cell? ⟨B + 1 + 1, 0, none⟩ = some (.slice none 0 0)
  r1 : W.cell? ⟨B + 1 + 1, 1, none⟩ = some (.slice none 0 0)
  x0 : W.frozen? ⟨B + 1 + 1, 0, none⟩ = false
  x1 : W.frozen? ⟨B + 1 + 1, 1, none⟩ = false
  size : B + 1 + 1 < W.heap.size
theorem Head.below {B : Nat} {tn td wl wh pl ph k : Int} {W W1 : World} (h : Head B tn td wl wh pl ph k W) (hb : Below W.heap.size W W1) : Head B tn td wl wh pl ph k W1 := by
  obtain ⟨t0, t1, l0, l1, l2, l3, l4, r0, r1, x0, x1, hs⟩ := h
  exact ⟨kc_below hb t0, kc_below hb t1, kc_below hb l0, kc_below hb l1, kc_below hb l2, kc_below hb l3, kc_below hb l4, kc_below hb r0, kc_below hb r1, kf_below hb hs x0, kf_below hb hs x1, Nat.lt_of_lt_of_le hs hb.size⟩

/-- The bounds that checkSearch has seen to. -/
structure Fine (tn td wl wh pl ph k : Int) : Prop where
  w1 : 1 ≤ wl
  w2 : wl ≤ wh
  w3 : wh ≤ 200
  w4 : wh - wl < 64
  p1 : 1 ≤ pl
  p2 : pl ≤ ph
  p3 : ph ≤ 200
  p4 : ph - pl < 12
  k1 : 1 ≤ k
  k3 : k ≤ 3
  tn1 : 1 ≤ tn
  tn2 : tn ≤ 4611686018427387904
  td1 : 1 ≤ td
  td2 : td ≤ 4611686018427387904
  gcd : Int.gcd tn td = 1

theorem own_slice {W : World} {base k : Nat} {v : Value} {xs : List Value} (h : W.ownsRow base 3 1 v k xs) : ∃ a m, v = .slice a k m := by
  rcases Go.Joins.ownsRow_forms h with ⟨rfl, rfl⟩ | ⟨g, m, rfl⟩
  · exact ⟨none, 0, rfl⟩
  · exact ⟨_, m, rfl⟩
theorem bestS_pick {tn td wl wh pl ph : Int} {st : Nat} (hst : 1 ≤ st) : Pick tn td (trainsL st (sidesL wl wh st false) (sidesL pl ph st true) tn td) (bestS tn td wl wh pl ph st) :=
  bestE_spec tn td _ fun t ht => by
    have := (trains_sides ht).1
    omega
theorem bestS_n {tn td wl wh pl ph : Int} {st : Nat} (hst : 1 ≤ st) (h : 1 ≤ (bestS tn td wl wh pl ph st).n) : (bestS tn td wl wh pl ph st).n = st := by
  rcases bestS_pick hst with ⟨h0, _⟩ | ⟨_, h1, _⟩
  · rw [h0] at h; omega
  · exact (trains_sides h1).1

set_option maxHeartbeats 4000000 in
set_option maxRecDepth 100000 in
theorem round_any (v0 v1 v5 v6 v8 v9 v10 v11 v12 v13 v14 v15 v16 v17 v18 v19 v20 v21 v22 v23 v24 v25 v26 v27 v43 v44 v45 v46 v47 v48 : Value) (ds : List Deferred)
    (B : Nat) (tn td wl wh pl ph k : Int) (st : Nat) (w : World) (Q : Exit → Act → World → Prop) (hF : Fine tn td wl wh pl ph k) (hH : Head B tn td wl wh pl ph k w) (hst1 : 1 ≤ st) (hst : (st : Int) ≤ k)
    (hmiss : (bestS tn td wl wh pl ph st).n < 1 → ∀ (v8 v9 v10 v11 v12 v13 v14 v15 v16 v17 v18 v19 v20 v21 v22 v23 v24 v25 v26 v27 v43 v44 v45 v46 v47 v48 : Value) (D : Nat) (W' : World),
      Below w.heap.size w W' → w.heap.size ≤ D → W'.heap[D]? = some (.deferred (some [])) →
      Q .normal ⟨#[v0, v1, .pointer (some ⟨B, 0, none⟩), .pointer (some ⟨B + 1, 0, none⟩), .pointer (some ⟨B + 1 + 1, 0, none⟩), v5, v6, .int .i64 ((st : Int) + 1), v8, v9, v10, v11, v12, v13, v14, v15, v16, v17, v18, v19, v20, v21, v22, v23, v24, v25, v26, v27, undef, undef, undef, undef, undef, undef, undef, undef, undef, undef, undef, undef, undef, undef, undef, v43, v44, v45, v46, v47, v48], { target := .collected D, args := #[] } :: ds⟩ W')
    (hhit : 1 ≤ (bestS tn td wl wh pl ph st).n → ∀ (v8 v9 v10 v11 v12 v13 v14 v15 v16 v17 v18 v19 v20 v21 v22 v23 v24 v25 v26 v27 v43 v44 v45 v46 v47 v48 s0 s1 : Value) (D : Nat) (W' : World),
      Below (B + 1 + 1) w W' → (∀ i, i < w.heap.size → i ≠ B + 1 + 1 → W'.heap[i]? = w.heap[i]?) → w.heap.size ≤ D → W'.heap[D]? = some (.deferred (some [])) →
      W'.cell? ⟨B + 1 + 1, 0, none⟩ = some s0 → W'.cell? ⟨B + 1 + 1, 1, none⟩ = some s1 →
      W'.ownsRow w.heap.size 3 1 s0 st ((bestS tn td wl wh pl ph st).w.row st) → W'.ownsRow w.heap.size 3 1 s1 st ((bestS tn td wl wh pl ph st).p.row st) →
      Q .ret ⟨#[v0, v1, .pointer (some ⟨B, 0, none⟩), .pointer (some ⟨B + 1, 0, none⟩), .pointer (some ⟨B + 1 + 1, 0, none⟩), .int .i64 0, v6, .int .i64 (st : Int), v8, v9, v10, v11, v12, v13, v14, v15, v16, v17, v18, v19, v20, v21, v22, v23, v24, v25, v26, v27, undef, undef, undef, undef, undef, undef, undef, undef, undef, undef, undef, undef, undef, undef, undef, v43, v44, v45, v46, v47, v48], { target := .collected D, args := #[] } :: ds⟩ W') :
    Code.wpIn Fence.wide 6 Try.prog loopE Q ⟨#[v0, v1, .pointer (some ⟨B, 0, none⟩), .pointer (some ⟨B + 1, 0, none⟩), .pointer (some ⟨B + 1 + 1, 0, none⟩), v5, v6, .int .i64 (st : Int), v8, v9, v10, v11, v12, v13, v14, v15, v16, v17, v18, v19, v20, v21, v22, v23, v24, v25, v26, v27, undef, undef, undef, undef, undef, undef, undef, undef, undef, undef, undef, undef, undef, undef, undef, v43, v44, v45, v46, v47, v48], ds⟩ w := by
  have hH' := hH
  obtain ⟨t0, t1, l0, l1, l2, l3, l4, r0, r1, x0, x1, hs⟩ := hH
  obtain ⟨w1, w2_, w3, w4, p1, p2, p3, p4, k1, k3, tn1, tn2, td1, td2, hgcd⟩ := hF
  have hT := fun W => trainsF_any tn td wl wh pl ph k st W
  have HT := fun W => Lib.hid (hT W)
  clear hT
  have HM := Lib.hid hmiss
  have HI := Lib.hid hhit
  clear hmiss hhit hgcd
  have g0 : B < w.heap.size := by omega
  have g1 : B + 1 < w.heap.size := by omega
  conv => arg 4; whnf
  gi_wp2_with (refine ⟨trivial, ?_⟩; gi_at_call 82; refine (callsIn_wide.2 (HT _).out).mono ?_; rintro x w2 ⟨rfl, hk2, hz2, hcap⟩; simp only [World.size_alloc] at hz2 hcap)
  have hbbw : w.heap.size < w2.heap.size := by omega
  have b2 := hk2.below
  have bo : box11 w2 w.heap.size zeroTr := by
    unfold box11 zeroTr
    refine ⟨?_, ?_, ?_, ?_, ?_, ?_, ?_, ?_, ?_, ?_, ?_⟩ <;> exact kc_below b2 (kc_new rfl rfl)
  have fo : fz11 w2 w.heap.size := by
    unfold fz11
    refine ⟨?_, ?_, ?_, ?_, ?_, ?_, ?_, ?_, ?_, ?_, ?_⟩ <;> exact kf_below b2 (by simp) (kf_new rfl _)
  have B2 : Below w.heap.size w w2 := by (with_reducible repeat (first | exact Below.refl _ _ | refine bl_alloc ?_ _ | refine bl_drew ?_ | refine bl_drewN ?_ _ | (refine bl_set ?_ ?_ _; (focus dsimp only; omega)) | refine bl_call ?_ b2))
  have tt0 : w2.cell? ⟨B, 0, none⟩ = some (.int .i64 tn) := kc_below B2 t0
  have tt1 : w2.cell? ⟨B, 1, none⟩ = some (.int .i64 td) := kc_below B2 t1
  refine range_any _ _ _ _ _ _ _ _ _ _ _ _ _ _ _ _ _ _ _ _ _ _ _ _ _ _ _ _ _ _ _ _ B w.heap.size _ _ _ tn td wl wh pl ph st w2 _ hcap hbbw (by omega) (by omega) (by omega) (by omega) tt0 tt1 w1 w2_ w3 w4 p1 p2 p3 (by omega) (by omega) hst1 (by omega) tn2 td1 td2 bo fo ?_
  intro D W' hD hbl hkp hb hf hd
  have hn := fun h => bestS_n (tn := tn) (td := td) (wl := wl) (wh := wh) (pl := pl) (ph := ph) hst1 h
  generalize bestS tn td wl wh pl ph st = t at *
  have BW : Below w.heap.size w W' := B2.trans hbl
  have hzw := BW.size
  by_cases hm : t.n < 1
  · obtain ⟨n', ⟨a, b, c, p, s⟩, ⟨a', b', c', p', s'⟩⟩ := t
    obtain ⟨c0, c1, c2, c3, c4, c5, c6, c7, c8, c9, c10⟩ := hb
    simp only at hm c0
    gi_wp2_with fail
    exact HM.out hm _ _ _ _ _ _ _ _ _ _ _ _ _ _ _ _ _ _ _ _ _ _ _ _ _ _ D W' BW (by omega) hd
  · have h1 : 1 ≤ t.n := by omega
    have HG := fun W => Lib.hid (given_any t st W (by omega) (hn h1))
    have hsz : B + 1 + 1 < W'.heap.size := by omega
    have q0 : W'.cell? ⟨B + 1 + 1, 0, none⟩ = some (.slice none 0 0) := kc_below BW r0
    have q1 : W'.cell? ⟨B + 1 + 1, 1, none⟩ = some (.slice none 0 0) := kc_below BW r1
    have z0 : W'.frozen? ⟨B + 1 + 1, 0, none⟩ = false := kf_below BW hs x0
    have z1 : W'.frozen? ⟨B + 1 + 1, 1, none⟩ = false := kf_below BW hs x1
    obtain ⟨n', ⟨a, b, c, p, s⟩, ⟨a', b', c', p', s'⟩⟩ := t
    obtain ⟨c0, c1, c2, c3, c4, c5, c6, c7, c8, c9, c10⟩ := hb
    simp only at hm h1 c0 c1 c2 c3 c4 c5 c6 c7 c8 c9 c10
    simp only [Tr.val, Tr.cells] at HG
    clear bo fo hf hcap hn tt0 tt1 t0 t1 l0 l1 l2 l3 l4
    gi_wp2_with (refine ⟨trivial, ?_⟩; gi_at_call 85; refine (callsIn_wide.2 (HG _).out).mono ?_; rintro x w3 ⟨s0, s1, rfl, ho1, ho2, hb3⟩; obtain ⟨p0, m0, rfl⟩ := own_slice ho1; obtain ⟨p1, m1, rfl⟩ := own_slice ho2; have HO1 := Lib.hid ho1; have HO2 := Lib.hid ho2; clear ho1 ho2; have y0 : w3.cell? ⟨B + 1 + 1, 0, none⟩ = some (.slice none 0 0) := (kc_below hb3 q0); have y1 : w3.cell? ⟨B + 1 + 1, 1, none⟩ = some (.slice none 0 0) := (kc_below hb3 q1); have u0 : w3.frozen? ⟨B + 1 + 1, 0, none⟩ = false := (kf_below hb3 hsz z0); have u1 : w3.frozen? ⟨B + 1 + 1, 1, none⟩ = false := (kf_below hb3 hsz z1))
    have B3 : Below w.heap.size w w3 := BW.trans (hb3.mono hzw)
    have hDl : D < W'.heap.size := (Array.getElem?_eq_some_iff.1 hd).1
    refine HI.out h1 _ _ _ _ _ _ _ _ _ _ _ _ _ _ _ _ _ _ _ _ _ _ _ _ _ _ (.slice p0 st m0) (.slice p1 st m1) D _ (((B3.mono (Nat.le_of_lt hs)).setCell (Nat.le_refl _) _).setCell (Nat.le_refl _) _) ?_ (by omega) ?_ ?_ ?_ ?_ ?_
    · intro i hi hne
      rw [Below.heap_setCell _ _ _ _ hne, Below.heap_setCell _ _ _ _ hne]
      exact B3.block i hi
    · rw [Below.heap_setCell _ _ _ _ (by simp only; omega), Below.heap_setCell _ _ _ _ (by simp only; omega)]
      exact (hb3.block D hDl).trans hd
    · (repeat (first | with_reducible exact y0 | with_reducible exact y1 | with_reducible rfl | with_reducible exact Below.refl _ _ | with_reducible exact gro_refl _ | with_reducible refine kc_drew ?_ | with_reducible refine kc_drewN _ ?_ | with_reducible refine kf_drew ?_ | with_reducible refine kf_drewN _ ?_ | ((with_reducible refine kc_new ?_ ?_); (focus (first | with_reducible rfl | (simp only [World.size_alloc, World.size_setCell, World.size_drew, size_drewN]; done))); (focus (first | rfl | (simp; done)))) | ((with_reducible refine kc_set0 ?_ ?_); (focus (first | rfl | (simp; done)))) | with_reducible exact ct_of (y0) | with_reducible exact ct_of (y1) | with_reducible refine ct_drew ?_ | with_reducible refine ct_drewN _ ?_ | ((with_reducible refine ct_new ?_ ?_); (focus (first | with_reducible rfl | (simp only [World.size_alloc, World.size_setCell, World.size_drew, size_drewN]; done))); (focus (first | rfl | (simp; done)))) | with_reducible refine ct_set _ _ ?_ | with_reducible refine ct_alloc _ ?_ | ((with_reducible refine kc_set ?_ ?_); (focus (first | (intro hx; injection hx; omega) | (simp; done)))) | with_reducible refine kc_alloc _ ?_ | ((with_reducible refine kf_new ?_ _); (focus (first | with_reducible rfl | (simp only [World.size_alloc, World.size_setCell, World.size_drew, size_drewN]; done)))) | with_reducible refine kf_set _ _ ?_ | ((with_reducible refine kf_alloc _ ?_ ?_); (focus (first | (simp only [World.size_alloc, World.size_setCell, World.size_drew, size_drewN]; omega) | (dsimp only; omega)))) | with_reducible refine bl_alloc ?_ _ | with_reducible refine bl_drew ?_ | with_reducible refine bl_drewN ?_ _ | ((with_reducible refine bl_set ?_ ?_ _); (focus (dsimp only; omega))) | with_reducible refine gro_alloc ?_ _ | with_reducible refine gro_drew ?_ | with_reducible refine gro_drewN ?_ _ | ((with_reducible refine gro_set ?_ ?_ _); (focus (first | omega | (dsimp only; omega))))))
    · (repeat (first | with_reducible exact y0 | with_reducible exact y1 | with_reducible rfl | with_reducible exact Below.refl _ _ | with_reducible exact gro_refl _ | with_reducible refine kc_drew ?_ | with_reducible refine kc_drewN _ ?_ | with_reducible refine kf_drew ?_ | with_reducible refine kf_drewN _ ?_ | ((with_reducible refine kc_new ?_ ?_); (focus (first | with_reducible rfl | (simp only [World.size_alloc, World.size_setCell, World.size_drew, size_drewN]; done))); (focus (first | rfl | (simp; done)))) | ((with_reducible refine kc_set0 ?_ ?_); (focus (first | rfl | (simp; done)))) | with_reducible exact ct_of (y0) | with_reducible exact ct_of (y1) | with_reducible refine ct_drew ?_ | with_reducible refine ct_drewN _ ?_ | ((with_reducible refine ct_new ?_ ?_); (focus (first | with_reducible rfl | (simp only [World.size_alloc, World.size_setCell, World.size_drew, size_drewN]; done))); (focus (first | rfl | (simp; done)))) | with_reducible refine ct_set _ _ ?_ | with_reducible refine ct_alloc _ ?_ | ((with_reducible refine kc_set ?_ ?_); (focus (first | (intro hx; injection hx; omega) | (simp; done)))) | with_reducible refine kc_alloc _ ?_ | ((with_reducible refine kf_new ?_ _); (focus (first | with_reducible rfl | (simp only [World.size_alloc, World.size_setCell, World.size_drew, size_drewN]; done)))) | with_reducible refine kf_set _ _ ?_ | ((with_reducible refine kf_alloc _ ?_ ?_); (focus (first | (simp only [World.size_alloc, World.size_setCell, World.size_drew, size_drewN]; omega) | (dsimp only; omega)))) | with_reducible refine bl_alloc ?_ _ | with_reducible refine bl_drew ?_ | with_reducible refine bl_drewN ?_ _ | ((with_reducible refine bl_set ?_ ?_ _); (focus (dsimp only; omega))) | with_reducible refine gro_alloc ?_ _ | with_reducible refine gro_drew ?_ | with_reducible refine gro_drewN ?_ _ | ((with_reducible refine gro_set ?_ ?_ _); (focus (first | omega | (dsimp only; omega))))))
    · refine Go.Joins.ownsRow_le (ownsRow_setCell_below (ownsRow_setCell_below HO1.out ?_ _) ?_ _) ?_
      all_goals (try simp only)
      all_goals omega
    · refine Go.Joins.ownsRow_le (ownsRow_setCell_below (ownsRow_setCell_below HO2.out ?_ _) ?_ _) ?_
      all_goals (try simp only)
      all_goals omega
end Go.Proofs.Ytoenimkgagndnaa

/- Exact: what it returns. -/
namespace Go.Proofs.Ytoenimkgagndnaa
set_option linter.unusedVariables false
set_option linter.unusedSimpArgs false
open Go.RowKit Go.Shelf Go.Lib Go.Sort
attribute [local go_sem] Oper.semAt_some

def mk (D : Nat) : Deferred := { target := .collected D, args := #[] }

/-- What Exact picks from a number of stages on. -/
def exS (tn td wl wh pl ph : Int) : Nat → Nat → Tr
  | 0, _ => zeroTr
  | m + 1, st => if (bestS tn td wl wh pl ph st).n < 1 then exS tn td wl wh pl ph m (st + 1) else bestS tn td wl wh pl ph st

/-- The marks among the deferred calls. -/
structure Defs (B : Nat) (Ds : List Nat) (W : World) : Prop where
  low : ∀ D ∈ Ds, B < D
  is : ∀ D ∈ Ds, W.heap[D]? = some (.deferred (some []))
  nodup : Ds.Nodup
theorem Defs.cons {B D : Nat} {Ds : List Nat} {W W1 : World} (h : Defs B Ds W) (hs : B < W.heap.size) (hb : ∀ i, i < W.heap.size → i ≠ B → W1.heap[i]? = W.heap[i]?) (hD : W.heap.size ≤ D) (hd : W1.heap[D]? = some (.deferred (some []))) : Defs B (D :: Ds) W1 := by
  have hlt : ∀ D' ∈ Ds, D' < W.heap.size := fun D' h' => (Array.getElem?_eq_some_iff.1 (h.is D' h')).1
  refine ⟨?_, ?_, ?_⟩
  · intro D' h'
    rcases List.mem_cons.1 h' with rfl | h'
    · omega
    · exact h.low _ h'
  · intro D' h'
    rcases List.mem_cons.1 h' with rfl | h'
    · exact hd
    · have := h.low _ h'
      exact (hb D' (hlt _ h') (by omega)).trans (h.is _ h')
  · exact List.nodup_cons.2 ⟨fun h' => by have := hlt _ h'; omega, h.nodup⟩

/-- Worlds that differ at marks alone. -/
structure OnlyAt (Ds : List Nat) (W W' : World) : Prop where
  os : W'.os = W.os
  tape : W'.tape = W.tape
  output : W'.output = W.output
  size : W'.heap.size = W.heap.size
  block : ∀ k, k ∉ Ds → W'.heap[k]? = W.heap[k]?
theorem leaves_marks {fn : Func} {tmps : Array Value} {R : Ending → World → Prop} : ∀ (Ds : List Nat) (W : World), (∀ D ∈ Ds, W.heap[D]? = some (.deferred (some []))) → Ds.Nodup →
    (∀ W', OnlyAt Ds W W' → ∃ v, (results fn tmps).run Try.prog W' = .ok v W' ∧ R (.returned v) W') → LeavesInM Fence.wide 6 Try.prog fn tmps R (Ds.map mk) .returning W := by
  intro Ds
  induction Ds with
  | nil => exact fun W _ _ h => h W ⟨rfl, rfl, rfl, rfl, fun _ _ => rfl⟩
  | cons D Ds ih =>
    intro W hd hn h
    obtain ⟨hD, hn⟩ := List.nodup_cons.1 hn
    refine ⟨by simp, .inl ⟨D, _, rfl, run_takeDeferred (hd D List.mem_cons_self), ?_⟩⟩
    refine ih _ ?_ hn ?_
    · intro D' h'
      rw [World.putObj_heap_other (by rintro rfl; exact hD h')]
      exact hd D' (List.mem_cons_of_mem _ h')
    · intro W' hW
      refine h W' ⟨hW.os, hW.tape, hW.output, ?_, ?_⟩
      · rw [hW.size]; simp [World.putObj]
      · intro k hk
        simp only [List.mem_cons, not_or] at hk
        rw [hW.block k hk.2, World.putObj_heap_other (by omega)]

set_option maxRecDepth 100000 in
theorem rest_any (B : Nat) (tn td wl wh pl ph k : Int) (v0 v1 v6 : Value) (hF : Fine tn td wl wh pl ph k) (Q : Exit → Act → World → Prop) : ∀ (m st : Nat) (v5 v8 v9 v10 v11 v12 v13 v14 v15 v16 v17 v18 v19 v20 v21 v22 v23 v24 v25 v26 v27 v43 v44 v45 v46 v47 v48 : Value) (Ds : List Nat) (w : World),
    (st : Int) + m = k + 1 → 1 ≤ st → Head B tn td wl wh pl ph k w → Defs (B + 1 + 1) Ds w →
    ((exS tn td wl wh pl ph m st).n < 1 → ∀ (v8 v9 v10 v11 v12 v13 v14 v15 v16 v17 v18 v19 v20 v21 v22 v23 v24 v25 v26 v27 v43 v44 v45 v46 v47 v48 : Value) (Ds : List Nat) (W : World), Below w.heap.size w W → Head B tn td wl wh pl ph k W → Defs (B + 1 + 1) Ds W →
      Q (.exit 0) ⟨#[v0, v1, .pointer (some ⟨B, 0, none⟩), .pointer (some ⟨B + 1, 0, none⟩), .pointer (some ⟨B + 1 + 1, 0, none⟩), v5, v6, .int .i64 (k + 1), v8, v9, v10, v11, v12, v13, v14, v15, v16, v17, v18, v19, v20, v21, v22, v23, v24, v25, v26, v27, undef, undef, undef, undef, undef, undef, undef, undef, undef, undef, undef, undef, undef, undef, undef, v43, v44, v45, v46, v47, v48], Ds.map mk⟩ W) →
    (1 ≤ (exS tn td wl wh pl ph m st).n → ∀ (v8 v9 v10 v11 v12 v13 v14 v15 v16 v17 v18 v19 v20 v21 v22 v23 v24 v25 v26 v27 v43 v44 v45 v46 v47 v48 s0 s1 : Value) (st' : Nat) (Ds : List Nat) (W : World), Below (B + 1 + 1) w W → Defs (B + 1 + 1) Ds W → (exS tn td wl wh pl ph m st).n = st' →
      W.cell? ⟨B + 1 + 1, 0, none⟩ = some s0 → W.cell? ⟨B + 1 + 1, 1, none⟩ = some s1 →
      W.ownsRow w.heap.size 3 1 s0 st' ((exS tn td wl wh pl ph m st).w.row st') → W.ownsRow w.heap.size 3 1 s1 st' ((exS tn td wl wh pl ph m st).p.row st') →
      Q .ret ⟨#[v0, v1, .pointer (some ⟨B, 0, none⟩), .pointer (some ⟨B + 1, 0, none⟩), .pointer (some ⟨B + 1 + 1, 0, none⟩), .int .i64 0, v6, .int .i64 (st' : Int), v8, v9, v10, v11, v12, v13, v14, v15, v16, v17, v18, v19, v20, v21, v22, v23, v24, v25, v26, v27, undef, undef, undef, undef, undef, undef, undef, undef, undef, undef, undef, undef, undef, undef, undef, v43, v44, v45, v46, v47, v48], Ds.map mk⟩ W) →
    Code.roundsIn Fence.wide 6 Try.prog loopE Q (m + 1) ⟨#[v0, v1, .pointer (some ⟨B, 0, none⟩), .pointer (some ⟨B + 1, 0, none⟩), .pointer (some ⟨B + 1 + 1, 0, none⟩), v5, v6, .int .i64 (st : Int), v8, v9, v10, v11, v12, v13, v14, v15, v16, v17, v18, v19, v20, v21, v22, v23, v24, v25, v26, v27, undef, undef, undef, undef, undef, undef, undef, undef, undef, undef, undef, undef, undef, undef, undef, v43, v44, v45, v46, v47, v48], Ds.map mk⟩ w := by
  intro m
  induction m with
  | zero =>
    intro st v5 v8 v9 v10 v11 v12 v13 v14 v15 v16 v17 v18 v19 v20 v21 v22 v23 v24 v25 v26 v27 v43 v44 v45 v46 v47 v48 Ds w hk hst hH hD hend _
    rw [roundsIn_succ]
    have hz : (exS tn td wl wh pl ph 0 st).n < 1 := by unfold exS zeroTr; decide
    have ek : (st : Int) = k + 1 := by omega
    rw [ek]
    clear ek
    have k1 := hF.k1
    have k3 := hF.k3
    have g1 : B + 1 < w.heap.size := by have := hH.size; omega
    have l4 := hH.l4
    have HE := Lib.hid (hend hz)
    clear hend
    conv => arg 4; whnf
    gi_wp2_with fail
    exact HE.out _ _ _ _ _ _ _ _ _ _ _ _ _ _ _ _ _ _ _ _ _ _ _ _ _ _ Ds w (Below.refl _ _) hH hD
  | succ m ih =>
    intro st v5 v8 v9 v10 v11 v12 v13 v14 v15 v16 v17 v18 v19 v20 v21 v22 v23 v24 v25 v26 v27 v43 v44 v45 v46 v47 v48 Ds w hk hst hH hD hend hret
    rw [roundsIn_succ]
    refine round_any v0 v1 v5 v6 v8 v9 v10 v11 v12 v13 v14 v15 v16 v17 v18 v19 v20 v21 v22 v23 v24 v25 v26 v27 v43 v44 v45 v46 v47 v48 (Ds.map mk) B tn td wl wh pl ph k st w _ hF hH hst (by omega) ?_ ?_
    · intro hm v8 v9 v10 v11 v12 v13 v14 v15 v16 v17 v18 v19 v20 v21 v22 v23 v24 v25 v26 v27 v43 v44 v45 v46 v47 v48 D W' hb hDl hd
      have hH' := hH.below hb
      have hE : exS tn td wl wh pl ph (m + 1) st = exS tn td wl wh pl ph m (st + 1) := by
        show (if _ then _ else _) = _
        rw [if_pos hm]
      rw [hE] at hend hret
      exact ih (st + 1) v5 v8 v9 v10 v11 v12 v13 v14 v15 v16 v17 v18 v19 v20 v21 v22 v23 v24 v25 v26 v27 v43 v44 v45 v46 v47 v48 (D :: Ds) W' (by omega) (by omega) hH' (hD.cons hH.size (fun i hi _ => hb.block i hi) hDl hd)
        (fun h v8 v9 v10 v11 v12 v13 v14 v15 v16 v17 v18 v19 v20 v21 v22 v23 v24 v25 v26 v27 v43 v44 v45 v46 v47 v48 Ds' W2 hb2 hH2 hD2 => hend h v8 v9 v10 v11 v12 v13 v14 v15 v16 v17 v18 v19 v20 v21 v22 v23 v24 v25 v26 v27 v43 v44 v45 v46 v47 v48 Ds' W2 (hb.trans (hb2.mono hb.size)) hH2 hD2)
        (fun h v8 v9 v10 v11 v12 v13 v14 v15 v16 v17 v18 v19 v20 v21 v22 v23 v24 v25 v26 v27 v43 v44 v45 v46 v47 v48 s0 s1 st' Ds' W2 hb2 hD2 hn c0 c1 o0 o1 => hret h v8 v9 v10 v11 v12 v13 v14 v15 v16 v17 v18 v19 v20 v21 v22 v23 v24 v25 v26 v27 v43 v44 v45 v46 v47 v48 s0 s1 st' Ds' W2 ((hb.mono (Nat.le_of_lt hH.size)).trans hb2) hD2 hn c0 c1 (Go.Joins.ownsRow_le o0 hb.size) (Go.Joins.ownsRow_le o1 hb.size))
    · intro hm v8 v9 v10 v11 v12 v13 v14 v15 v16 v17 v18 v19 v20 v21 v22 v23 v24 v25 v26 v27 v43 v44 v45 v46 v47 v48 s0 s1 D W' hb hsame hDl hd c0 c1 o0 o1
      have hE : exS tn td wl wh pl ph (m + 1) st = bestS tn td wl wh pl ph st := by
        show (if _ then _ else _) = _
        rw [if_neg (by omega)]
      rw [hE] at hend hret
      exact hret hm v8 v9 v10 v11 v12 v13 v14 v15 v16 v17 v18 v19 v20 v21 v22 v23 v24 v25 v26 v27 v43 v44 v45 v46 v47 v48 s0 s1 st (D :: Ds) W' hb (hD.cons hH.size hsame hDl hd) (bestS_n hst hm) c0 c1 o0 o1
end Go.Proofs.Ytoenimkgagndnaa

/- Exact: the whole call. -/
namespace Go.Proofs.Ytoenimkgagndnaa
set_option linter.unusedVariables false
set_option linter.unusedSimpArgs false
open Go.RowKit Go.Shelf Go.Lib Go.Sort
attribute [local go_sem] Oper.semAt_some

theorem cs_fine {n d a b c e k : Int} (h : csF n d a b c e k = 0) : Fine n d a b c e k := by
  unfold csF at h
  by_cases ho : okF n d
  · rw [if_pos ho] at h
    by_cases hv : vlF a b c e k = true ∧ 0 < n
    · obtain ⟨hv, hn⟩ := hv
      unfold vlF vtF at hv
      simp only [Bool.and_eq_true, decide_eq_true_eq] at hv
      unfold okF at ho
      exact ⟨by omega, by omega, by omega, by omega, by omega, by omega, by omega, by omega, by omega, by omega, by omega, by omega, by omega, by omega, ho.2.2.2.2⟩
    · rw [if_neg hv] at h
      cases h
  · rw [if_neg ho] at h
    cases h

/-- What Exact returns, of a good call. -/
def ExPost (t : Tr) (w : World) (e : Ending) (w' : World) : Prop :=
  Below w.heap.size w w' ∧ ((t.n < 1 ∧ e = .returned (.tuple #[.agg #[.slice none 0 0, .slice none 0 0], .int .i64 6])) ∨
    ∃ (st : Nat) (a : Option Addr) (m : Nat) (b : Option Addr) (k : Nat), t.n = st ∧ 1 ≤ st ∧ e = .returned (.tuple #[.agg #[.slice a st m, .slice b st k], .int .i64 0]) ∧
      w'.ownsRow w.heap.size 3 1 (.slice a st m) st (t.w.row st) ∧ w'.ownsRow w.heap.size 3 1 (.slice b st k) st (t.p.row st))

theorem own_only {Ds : List Nat} {W W' : World} {base k : Nat} {v : Value} {xs : List Value} (hW : ∀ D ∈ Ds, W.heap[D]? = some (.deferred (some []))) (hO : OnlyAt Ds W W') (h : W.ownsRow base 3 1 v k xs) : W'.ownsRow base 3 1 v k xs := by
  refine ⟨h.1, h.2.imp_right ?_⟩
  rintro ⟨g, cap, cur, hv, hl, hg, rest⟩
  refine ⟨g, cap, cur, hv, hl, (hO.block g fun hD => ?_).trans hg, rest⟩
  rw [hW g hD] at hg
  cases hg
theorem below_only {Ds : List Nat} {B : Nat} {w W W' : World} (hb : Below B w W) (hl : ∀ D ∈ Ds, B ≤ D) (hO : OnlyAt Ds W W') : Below B w W' :=
  hb.trans ⟨hO.os, hO.tape, hO.output, by rw [hO.size]; exact Nat.le_refl _, fun k hk => hO.block k fun hD => by have := hl k hD; omega⟩
theorem cell_only {Ds : List Nat} {W W' : World} {a : Addr} {v : Value} (hO : OnlyAt Ds W W') (ha : a.block ∉ Ds) (h : W.cell? a = some v) : W'.cell? a = some v := (World.cell?_of_block (hO.block _ ha)).trans h

set_option maxHeartbeats 2000000 in
set_option maxRecDepth 100000 in
theorem exact_fine (n d a b c e k : Int) (w : World) (hc : csF n d a b c e k = 0) :
    Calls Try.prog 49 #[.agg #[.int .i64 n, .int .i64 d], .agg #[.int .i64 a, .int .i64 b, .int .i64 c, .int .i64 e, .int .i64 k]] w (ExPost (exS n d a b c e k.toNat 1) w) := by
  have hF := cs_fine hc
  have hC := fun W => checkSearch_any n d a b c e k W (by have := hF.tn1; omega) (by have := hF.tn2; omega) (by have := hF.td1; omega) (by have := hF.td2; omega)
  rw [hc] at hC
  refine (callsIn_wide (n := 6)).1 ?_
  refine callsIn_of_wp_marks Try.func49 rfl trivial ?_ rfl
  simp only [Try.ntmps49, List.size_toArray, List.length_cons, List.length_nil, Nat.reduceAdd, Nat.reduceSub, Array.replicate_succ, Array.replicate_zero, List.push_toArray, List.append_toArray, List.nil_append, List.cons_append]
  gi_wp2_with (refine ⟨trivial, ?_⟩; gi_at_call 81; refine (callsIn_wide.2 (hC _)).mono ?_; rintro x w1 ⟨rfl, hk1⟩; have hb1 := hk1.below; obtain ⟨hc1, hf1⟩ := bcell hb1; simp only [World.size_alloc] at hc1 hf1)
  have hz1 := hb1.size
  simp only [World.size_alloc] at hz1
  have hH : Head w.heap.size n d a b c e k w1 := by
    refine ⟨?_, ?_, ?_, ?_, ?_, ?_, ?_, ?_, ?_, ?_, ?_, by omega⟩
    all_goals (repeat (first | with_reducible rfl | with_reducible exact Below.refl _ _ | with_reducible exact gro_refl _ | with_reducible refine kc_drew ?_ | with_reducible refine kc_drewN _ ?_ | with_reducible refine kf_drew ?_ | with_reducible refine kf_drewN _ ?_ | with_reducible refine kc_below hb1 ?_ | ((with_reducible refine kc_new ?_ ?_); (focus (first | with_reducible rfl | (simp only [World.size_alloc, World.size_setCell, World.size_drew, size_drewN]; done))); (focus (first | rfl | (simp; done)))) | ((with_reducible refine kc_set0 ?_ ?_); (focus (first | rfl | (simp; done)))) | with_reducible refine ct_drew ?_ | with_reducible refine ct_drewN _ ?_ | with_reducible refine ct_below hb1 ?_ | ((with_reducible refine ct_new ?_ ?_); (focus (first | with_reducible rfl | (simp only [World.size_alloc, World.size_setCell, World.size_drew, size_drewN]; done))); (focus (first | rfl | (simp; done)))) | with_reducible refine ct_set _ _ ?_ | with_reducible refine ct_alloc _ ?_ | ((with_reducible refine kc_set ?_ ?_); (focus (first | (intro hx; injection hx; omega) | (simp; done)))) | with_reducible refine kc_alloc _ ?_ | ((with_reducible refine kf_new ?_ _); (focus (first | with_reducible rfl | (simp only [World.size_alloc, World.size_setCell, World.size_drew, size_drewN]; done)))) | with_reducible refine kf_set _ _ ?_ | ((with_reducible refine kf_below hb1 ?_ ?_); (focus (simp only [World.size_alloc, World.size_setCell, World.size_drew, size_drewN]; omega))) | ((with_reducible refine kf_alloc _ ?_ ?_); (focus (first | (simp only [World.size_alloc, World.size_setCell, World.size_drew, size_drewN]; omega) | (dsimp only; omega)))) | with_reducible refine bl_alloc ?_ _ | with_reducible refine bl_drew ?_ | with_reducible refine bl_drewN ?_ _ | ((with_reducible refine bl_set ?_ ?_ _); (focus (dsimp only; omega))) | with_reducible refine bl_call ?_ hb1 | with_reducible refine gro_alloc ?_ _ | with_reducible refine gro_drew ?_ | with_reducible refine gro_drewN ?_ _ | ((with_reducible refine gro_set ?_ ?_ _); (focus (first | omega | (dsimp only; omega)))) | with_reducible refine gro_call ?_ hk1))
  have hB1 : Below w.heap.size w w1 := by (with_reducible repeat (first | exact Below.refl _ _ | refine bl_alloc ?_ _ | refine bl_drew ?_ | refine bl_drewN ?_ _ | (refine bl_set ?_ ?_ _; (focus dsimp only; omega)) | refine bl_call ?_ hb1))
  refine wpIn_loop_rounds (k.toNat + 1) ?_
  have k1 := hF.k1
  refine rest_any w.heap.size n d a b c e k _ _ _ hF _ k.toNat 1 _ _ _ _ _ _ _ _ _ _ _ _ _ _ _ _ _ _ _ _ _ _ _ _ _ _ _ [] w1 (by omega) (by decide) hH ⟨by simp, by simp, by simp⟩ ?_ ?_
  · intro hn v8 v9 v10 v11 v12 v13 v14 v15 v16 v17 v18 v19 v20 v21 v22 v23 v24 v25 v26 v27 v43 v44 v45 v46 v47 v48 Ds W hb hH2 hD
    obtain ⟨t0, t1, l0, l1, l2, l3, l4, r0, r1, x0, x1, hs⟩ := hH2
    gi_wp2_with fail
    refine leaves_marks Ds _ ?_ hD.nodup ?_
    · intro D h
      have := hD.low _ h
      rw [Below.heap_setCell _ _ _ _ (by simp only; omega), Below.heap_setCell _ _ _ _ (by simp only; omega)]
      exact hD.is D h
    · intro W' hO
      have hnot : w.heap.size + 1 + 1 ∉ Ds := fun h => by have := hD.low _ h; omega
      have d0 := cell_only (v := .slice none 0 0) (a := ⟨w.heap.size + 1 + 1, 0, none⟩) hO hnot (by (repeat (first | with_reducible exact r0 | with_reducible exact r1 | with_reducible rfl | with_reducible exact Below.refl _ _ | with_reducible exact gro_refl _ | with_reducible refine kc_drew ?_ | with_reducible refine kc_drewN _ ?_ | with_reducible refine kf_drew ?_ | with_reducible refine kf_drewN _ ?_ | ((with_reducible refine kc_new ?_ ?_); (focus (first | with_reducible rfl | (simp only [World.size_alloc, World.size_setCell, World.size_drew, size_drewN]; done))); (focus (first | rfl | (simp; done)))) | ((with_reducible refine kc_set0 ?_ ?_); (focus (first | rfl | (simp; done)))) | with_reducible exact ct_of (r0) | with_reducible exact ct_of (r1) | with_reducible refine ct_drew ?_ | with_reducible refine ct_drewN _ ?_ | ((with_reducible refine ct_new ?_ ?_); (focus (first | with_reducible rfl | (simp only [World.size_alloc, World.size_setCell, World.size_drew, size_drewN]; done))); (focus (first | rfl | (simp; done)))) | with_reducible refine ct_set _ _ ?_ | with_reducible refine ct_alloc _ ?_ | ((with_reducible refine kc_set ?_ ?_); (focus (first | (intro hx; injection hx; omega) | (simp; done)))) | with_reducible refine kc_alloc _ ?_ | ((with_reducible refine kf_new ?_ _); (focus (first | with_reducible rfl | (simp only [World.size_alloc, World.size_setCell, World.size_drew, size_drewN]; done)))) | with_reducible refine kf_set _ _ ?_ | ((with_reducible refine kf_alloc _ ?_ ?_); (focus (first | (simp only [World.size_alloc, World.size_setCell, World.size_drew, size_drewN]; omega) | (dsimp only; omega)))) | with_reducible refine bl_alloc ?_ _ | with_reducible refine bl_drew ?_ | with_reducible refine bl_drewN ?_ _ | ((with_reducible refine bl_set ?_ ?_ _); (focus (dsimp only; omega))) | with_reducible refine gro_alloc ?_ _ | with_reducible refine gro_drew ?_ | with_reducible refine gro_drewN ?_ _ | ((with_reducible refine gro_set ?_ ?_ _); (focus (first | omega | (dsimp only; omega)))))))
      have d1 := cell_only (v := .slice none 0 0) (a := ⟨w.heap.size + 1 + 1, 1, none⟩) hO hnot (by (repeat (first | with_reducible exact r0 | with_reducible exact r1 | with_reducible rfl | with_reducible exact Below.refl _ _ | with_reducible exact gro_refl _ | with_reducible refine kc_drew ?_ | with_reducible refine kc_drewN _ ?_ | with_reducible refine kf_drew ?_ | with_reducible refine kf_drewN _ ?_ | ((with_reducible refine kc_new ?_ ?_); (focus (first | with_reducible rfl | (simp only [World.size_alloc, World.size_setCell, World.size_drew, size_drewN]; done))); (focus (first | rfl | (simp; done)))) | ((with_reducible refine kc_set0 ?_ ?_); (focus (first | rfl | (simp; done)))) | with_reducible exact ct_of (r0) | with_reducible exact ct_of (r1) | with_reducible refine ct_drew ?_ | with_reducible refine ct_drewN _ ?_ | ((with_reducible refine ct_new ?_ ?_); (focus (first | with_reducible rfl | (simp only [World.size_alloc, World.size_setCell, World.size_drew, size_drewN]; done))); (focus (first | rfl | (simp; done)))) | with_reducible refine ct_set _ _ ?_ | with_reducible refine ct_alloc _ ?_ | ((with_reducible refine kc_set ?_ ?_); (focus (first | (intro hx; injection hx; omega) | (simp; done)))) | with_reducible refine kc_alloc _ ?_ | ((with_reducible refine kf_new ?_ _); (focus (first | with_reducible rfl | (simp only [World.size_alloc, World.size_setCell, World.size_drew, size_drewN]; done)))) | with_reducible refine kf_set _ _ ?_ | ((with_reducible refine kf_alloc _ ?_ ?_); (focus (first | (simp only [World.size_alloc, World.size_setCell, World.size_drew, size_drewN]; omega) | (dsimp only; omega)))) | with_reducible refine bl_alloc ?_ _ | with_reducible refine bl_drew ?_ | with_reducible refine bl_drewN ?_ _ | ((with_reducible refine bl_set ?_ ?_ _); (focus (dsimp only; omega))) | with_reducible refine gro_alloc ?_ _ | with_reducible refine gro_drew ?_ | with_reducible refine gro_drewN ?_ _ | ((with_reducible refine gro_set ?_ ?_ _); (focus (first | omega | (dsimp only; omega)))))))
      have hB : Below w.heap.size w W' := below_only (((hB1.trans (hb.mono (by omega))).setCell (by simp only; omega) _).setCell (by simp only; omega) _) (fun D h => by have := hD.low _ h; omega) hO
      have hlt : w.heap.size + 1 + 1 < W'.heap.size := World.block_lt_of_cell? _ _ d0
      refine ⟨.tuple #[.agg #[.slice none 0 0, .slice none 0 0], .int .i64 6], ?_, hB, .inl ⟨hn, rfl⟩⟩
      simp [results, Try.results49, go_sem, d0, d1, hlt, Nat.ne_of_lt hlt]
  · intro hn v8 v9 v10 v11 v12 v13 v14 v15 v16 v17 v18 v19 v20 v21 v22 v23 v24 v25 v26 v27 v43 v44 v45 v46 v47 v48 s0 s1 st' Ds W hb hD hst c0 c1 o0 o1
    obtain ⟨p0, m0, rfl⟩ := own_slice o0
    obtain ⟨p1, m1, rfl⟩ := own_slice o1
    refine leaves_marks Ds W hD.is hD.nodup ?_
    intro W' hO
    have hnot : w.heap.size + 1 + 1 ∉ Ds := fun h => by have := hD.low _ h; omega
    have d0 := cell_only hO hnot c0
    have d1 := cell_only hO hnot c1
    have hB : Below w.heap.size w W' := below_only (hB1.trans (hb.mono (by omega))) (fun D h => by have := hD.low _ h; omega) hO
    have hlt : w.heap.size + 1 + 1 < W'.heap.size := World.block_lt_of_cell? _ _ d0
    refine ⟨.tuple #[.agg #[.slice p0 st' m0, .slice p1 st' m1], .int .i64 0], ?_, hB, .inr ⟨st', p0, m0, p1, m1, hst, by omega, rfl, ?_, ?_⟩⟩
    · simp [results, Try.results49, go_sem, d0, d1, hlt, Nat.ne_of_lt hlt]
    · exact Go.Joins.ownsRow_le (own_only hD.is hO o0) (by omega)
    · exact Go.Joins.ownsRow_le (own_only hD.is hO o1) (by omega)

/-- Of a bad call: its error. -/
theorem exact_bad (n d a b c e k : Int) (w : World) (hn : -9223372036854775808 ≤ n) (hn' : n ≤ 9223372036854775807) (hd : -9223372036854775808 ≤ d) (hd' : d ≤ 9223372036854775807) (hc : csF n d a b c e k ≠ 0) :
    Calls Try.prog 49 #[.agg #[.int .i64 n, .int .i64 d], .agg #[.int .i64 a, .int .i64 b, .int .i64 c, .int .i64 e, .int .i64 k]] w fun v w' => v = .returned (.tuple #[.agg #[.slice none 0 0, .slice none 0 0], .int .i64 (csF n d a b c e k)]) ∧ Below w.heap.size w w' := by
  have hC := fun W => checkSearch_any n d a b c e k W hn hn' hd hd'
  generalize csF n d a b c e k = q at *
  have h1 : (q != 0) = true := by simpa using hc
  clear hc
  refine (callsIn_wide (n := 6)).1 ?_
  refine callsIn_of_wp_marks Try.func49 rfl trivial ?_ rfl
  simp only [Try.ntmps49, List.size_toArray, List.length_cons, List.length_nil, Nat.reduceAdd, Nat.reduceSub, Array.replicate_succ, Array.replicate_zero, List.push_toArray, List.append_toArray, List.nil_append, List.cons_append]
  gi_wp2_with (refine ⟨trivial, ?_⟩; gi_at_call 81; refine (callsIn_wide.2 (hC _)).mono ?_; rintro x w1 ⟨rfl, hk1⟩; have hb1 := hk1.below; obtain ⟨hc1, hf1⟩ := bcell hb1; simp only [World.size_alloc] at hc1 hf1)
  have r0 : w1.cell? ⟨w.heap.size + 1 + 1, 0, none⟩ = some (.slice none 0 0) := by (with_reducible repeat (first | refine kc_drew ?_ | refine kc_drewN _ ?_ | refine kc_below hb1 ?_ | (refine kc_new ?_ ?_; (focus first | rfl | (simp only [World.size_alloc, World.size_setCell, World.size_drew, size_drewN]; done)); (focus first | rfl | (simp; done))) | (refine kc_set0 ?_ ?_; (focus first | rfl | (simp; done))) | exact ct_of (by assumption) | refine ct_drew ?_ | refine ct_drewN _ ?_ | refine ct_below hb1 ?_ | (refine ct_new ?_ ?_; (focus first | rfl | (simp only [World.size_alloc, World.size_setCell, World.size_drew, size_drewN]; done)); (focus first | rfl | (simp; done))) | refine ct_set _ _ ?_ | refine ct_alloc _ ?_ | (refine kc_set ?_ ?_; (focus first | (intro hx; injection hx; omega) | (simp; done))) | refine kc_alloc _ ?_))
  have r1 : w1.cell? ⟨w.heap.size + 1 + 1, 1, none⟩ = some (.slice none 0 0) := by (with_reducible repeat (first | refine kc_drew ?_ | refine kc_drewN _ ?_ | refine kc_below hb1 ?_ | (refine kc_new ?_ ?_; (focus first | rfl | (simp only [World.size_alloc, World.size_setCell, World.size_drew, size_drewN]; done)); (focus first | rfl | (simp; done))) | (refine kc_set0 ?_ ?_; (focus first | rfl | (simp; done))) | exact ct_of (by assumption) | refine ct_drew ?_ | refine ct_drewN _ ?_ | refine ct_below hb1 ?_ | (refine ct_new ?_ ?_; (focus first | rfl | (simp only [World.size_alloc, World.size_setCell, World.size_drew, size_drewN]; done)); (focus first | rfl | (simp; done))) | refine ct_set _ _ ?_ | refine ct_alloc _ ?_ | (refine kc_set ?_ ?_; (focus first | (intro hx; injection hx; omega) | (simp; done))) | refine kc_alloc _ ?_))
  have hB : Below w.heap.size w w1 := by (with_reducible repeat (first | exact Below.refl _ _ | refine bl_alloc ?_ _ | refine bl_drew ?_ | refine bl_drewN ?_ _ | (refine bl_set ?_ ?_ _; (focus dsimp only; omega)) | refine bl_call ?_ hb1))
  have hz1 := hb1.size
  simp only [World.size_alloc] at hz1
  have hlt : w.heap.size + 1 + 1 < w1.heap.size := by omega
  refine ⟨.tuple #[.agg #[.slice none 0 0, .slice none 0 0], .int .i64 q], ?_, rfl, (hB.setCell (by simp only; omega) _).setCell (by simp only; omega) _⟩
  simp [results, Try.results49, go_sem, r0, r1, hlt, Nat.ne_of_lt hlt]
end Go.Proofs.Ytoenimkgagndnaa

/- Walks of the statements' own helper lives: what every program must return. -/
namespace Go.Proofs.Ytoenimkgagndnaa
set_option linter.unusedVariables false
set_option linter.unusedSimpArgs false
open Go.RowKit Go.Lib

theorem rd_own {W : World} {base n m : Nat} {a : Option Addr} {xs : List Int} (hn : xs.length = n) (h : W.ownsRow base 3 1 (.slice a n m) n (xs.map (Value.int .i64))) : Rd W (.slice a n m) xs := by
  subst hn
  refine ⟨a, m, rfl, ?_, ?_⟩
  · rcases h.2 with ⟨h1, _⟩ | ⟨g, cap, cur, h1, _, _, h2, _⟩
    · simp at h1; omega
    · simp at h1; omega
  · rcases Go.Joins.ownsRow_forms h with ⟨_, h2⟩ | ⟨g, cap, h1⟩
    · exact .inl (List.eq_nil_of_length_eq_zero h2)
    · simp only [Value.slice.injEq, true_and] at h1
      obtain ⟨rfl, rfl⟩ := h1
      refine .inr ⟨g, 0, rfl, fun i hi => ?_⟩
      have := World.ownsRow.cellAt h i (by omega)
      rw [Nat.zero_add, this]
      simp [hi]
theorem rd_new {W : World} {t : TypeId} {b : Nat} (xs : List Int) (hb : W.heap.size = b) : Rd (W.alloc (.cells (xs.map (Value.int .i64)).toArray t)) (.slice (some ⟨b, 0, none⟩) xs.length xs.length) xs := by
  refine ⟨_, _, rfl, Nat.le_refl _, .inr ⟨b, 0, rfl, fun i hi => ?_⟩⟩
  refine kc_new hb ?_
  simp [hi]

theorem ex60 : exS 60 1 60 80 6 10 2 1 = ⟨2, w60, p60⟩ := by
  show (if (bestS 60 1 60 80 6 10 1).n < 1 then (if (bestS 60 1 60 80 6 10 2).n < 1 then _ else bestS 60 1 60 80 6 10 2) else _) = _
  have h1 : bestS 60 1 60 80 6 10 1 = zeroTr := pick_one
  have h2 : bestS 60 1 60 80 6 10 2 = ⟨2, w60, p60⟩ := pick_two
  rw [h1, h2]
  rfl

theorem exact60 (w : World) : Calls Try.prog 49 #[.agg #[.int .i64 60, .int .i64 1], .agg #[.int .i64 60, .int .i64 80, .int .i64 6, .int .i64 10, .int .i64 2]] w fun e w' =>
    ∃ a m b k, e = .returned (.tuple #[.agg #[.slice a 2 m, .slice b 2 k], .int .i64 0]) ∧ Hid (Rd w' (.slice a 2 m) [60, 60]) ∧ Hid (Rd w' (.slice b 2 k) [6, 10]) ∧ Below w.heap.size w w' := by
  refine (exact_fine 60 1 60 80 6 10 2 w (by decide)).mono ?_
  rintro e w' ⟨hb, h⟩
  rw [show (2 : Int).toNat = 2 from rfl, ex60] at h
  rcases h with ⟨h, _⟩ | ⟨st, a, m, b, k, hn, _, he, ho1, ho2⟩
  · simp at h
  · have : st = 2 := by simp at hn; omega
    subst this
    exact ⟨a, m, b, k, he, rd_own (xs := [60, 60]) rfl ho1, rd_own (xs := [6, 10]) rfl ho2, hb⟩

theorem between32 (w : World) : Calls Try.prog 24 #[.agg #[.int .i64 1, .int .i64 3], .agg #[.int .i64 1, .int .i64 2]] w fun e w' => e = .returned (.tuple #[.agg #[.int .i64 1, .int .i64 2], .int .i64 0]) ∧ Gro w w' :=
  between_any 1 3 1 2 w (by decide) (by decide) (by decide)

theorem same_yes (xs : List Int) (v u : Value) (w : World) (hv : Rd w v xs) (hu : Rd w u xs) (hn : xs.length ≤ 4611686018427387904) :
    Calls Try.prog 60 #[v, u] w fun e w' => e = .returned (.bool true) ∧ Gro w w' := by
  have h := same_any xs xs v u w hv hu hn hn
  rw [show sameB xs xs = true from decide_eq_true rfl] at h
  exact h

set_option maxHeartbeats 1000000 in
theorem lives_any (w : World) : Calls Try.prog 23 #[] w fun e w' => e = .returned (.bool true) ∧ Below w.heap.size w w' := by
  go_enter Try.func23, Try.ntmps23
  go_wp2_with (first | (go_at_call 24; refine (between32 _).mono ?_; rintro e w1 ⟨rfl, hk1⟩; have hb1 := hk1.below; have hz1 := hb1.size; have hB := hb1) | (go_at_call 49; refine (exact60 _).mono ?_; rintro e w2 ⟨a, m, b, k, rfl, hr1, hr2, hb2⟩; have ⟨k0, k1⟩ : w2.cell? ⟨w1.heap.size, 0, none⟩ = some (.int .i64 1) ∧ w2.cell? ⟨w1.heap.size, 1, none⟩ = some (.int .i64 2) := (by and_intros <;> (with_reducible repeat (first | refine kc_drew ?_ | refine kc_drewN _ ?_ | refine kc_below hb2 ?_ | (refine kc_new ?_ ?_; (focus first | rfl | (simp only [World.size_alloc, World.size_setCell, World.size_drew, size_drewN]; done)); (focus first | rfl | (simp; done))) | (refine kc_set0 ?_ ?_; (focus first | rfl | (simp; done))) | exact ct_of (by assumption) | refine ct_drew ?_ | refine ct_drewN _ ?_ | refine ct_below hb2 ?_ | (refine ct_new ?_ ?_; (focus first | rfl | (simp only [World.size_alloc, World.size_setCell, World.size_drew, size_drewN]; done)); (focus first | rfl | (simp; done))) | refine ct_set _ _ ?_ | refine ct_alloc _ ?_ | (refine kc_set ?_ ?_; (focus first | (intro hx; injection hx; omega) | (simp; done))) | refine kc_alloc _ ?_))); have hz2 := hb2.size; (try simp only [World.size_alloc, World.size_setCell] at hz2); have g2 : w1.heap.size < w2.heap.size := (by omega); have hB : Below w.heap.size w w2 := (by (with_reducible repeat (first | exact hB | exact Below.refl _ _ | refine bl_alloc ?_ _ | refine bl_drew ?_ | refine bl_drewN ?_ _ | (refine bl_set ?_ ?_ _; (focus dsimp only; omega)) | refine bl_call ?_ hb2)))) | (go_at_call 60; refine (same_yes [60, 60] _ _ _ (hr1.out.below (by (repeat (first | with_reducible rfl | with_reducible exact Below.refl _ _ | with_reducible exact gro_refl _ | with_reducible refine kc_drew ?_ | with_reducible refine kc_drewN _ ?_ | with_reducible refine kf_drew ?_ | with_reducible refine kf_drewN _ ?_ | ((with_reducible refine kc_new ?_ ?_); (focus (first | with_reducible rfl | (simp only [World.size_alloc, World.size_setCell, World.size_drew, size_drewN]; done))); (focus (first | rfl | (simp; done)))) | ((with_reducible refine kc_set0 ?_ ?_); (focus (first | rfl | (simp; done)))) | with_reducible refine ct_drew ?_ | with_reducible refine ct_drewN _ ?_ | ((with_reducible refine ct_new ?_ ?_); (focus (first | with_reducible rfl | (simp only [World.size_alloc, World.size_setCell, World.size_drew, size_drewN]; done))); (focus (first | rfl | (simp; done)))) | with_reducible refine ct_set _ _ ?_ | with_reducible refine ct_alloc _ ?_ | ((with_reducible refine kc_set ?_ ?_); (focus (first | (intro hx; injection hx; omega) | (simp; done)))) | with_reducible refine kc_alloc _ ?_ | ((with_reducible refine kf_new ?_ _); (focus (first | with_reducible rfl | (simp only [World.size_alloc, World.size_setCell, World.size_drew, size_drewN]; done)))) | with_reducible refine kf_set _ _ ?_ | ((with_reducible refine kf_alloc _ ?_ ?_); (focus (first | (simp only [World.size_alloc, World.size_setCell, World.size_drew, size_drewN]; omega) | (dsimp only; omega)))) | with_reducible refine bl_alloc ?_ _ | with_reducible refine bl_drew ?_ | with_reducible refine bl_drewN ?_ _ | ((with_reducible refine bl_set ?_ ?_ _); (focus (dsimp only; omega))) | with_reducible refine gro_alloc ?_ _ | with_reducible refine gro_drew ?_ | with_reducible refine gro_drewN ?_ _ | ((with_reducible refine gro_set ?_ ?_ _); (focus (first | omega | (dsimp only; omega)))))))) (rd_new [60, 60] (by simp)) (by decide)).mono ?_; rintro e w3 ⟨rfl, hk3⟩; have hb3 := hk3.below; have ⟨q0, q1⟩ : w3.cell? ⟨w2.heap.size, 0, none⟩ = some (.slice a 2 m) ∧ w3.cell? ⟨w2.heap.size, 1, none⟩ = some (.slice b 2 k) := (by and_intros <;> (with_reducible repeat (first | refine kc_drew ?_ | refine kc_drewN _ ?_ | refine kc_below hb3 ?_ | (refine kc_new ?_ ?_; (focus first | rfl | (simp only [World.size_alloc, World.size_setCell, World.size_drew, size_drewN]; done)); (focus first | rfl | (simp; done))) | (refine kc_set0 ?_ ?_; (focus first | rfl | (simp; done))) | exact ct_of (by assumption) | refine ct_drew ?_ | refine ct_drewN _ ?_ | refine ct_below hb3 ?_ | (refine ct_new ?_ ?_; (focus first | rfl | (simp only [World.size_alloc, World.size_setCell, World.size_drew, size_drewN]; done)); (focus first | rfl | (simp; done))) | refine ct_set _ _ ?_ | refine ct_alloc _ ?_ | (refine kc_set ?_ ?_; (focus first | (intro hx; injection hx; omega) | (simp; done))) | refine kc_alloc _ ?_))); have hR := hr2.out.below (W1 := w3) (by (repeat (first | with_reducible rfl | with_reducible exact Below.refl _ _ | with_reducible exact gro_refl _ | with_reducible refine kc_drew ?_ | with_reducible refine kc_drewN _ ?_ | with_reducible refine kf_drew ?_ | with_reducible refine kf_drewN _ ?_ | with_reducible refine kc_below hb3 ?_ | ((with_reducible refine kc_new ?_ ?_); (focus (first | with_reducible rfl | (simp only [World.size_alloc, World.size_setCell, World.size_drew, size_drewN]; done))); (focus (first | rfl | (simp; done)))) | ((with_reducible refine kc_set0 ?_ ?_); (focus (first | rfl | (simp; done)))) | with_reducible refine ct_drew ?_ | with_reducible refine ct_drewN _ ?_ | with_reducible refine ct_below hb3 ?_ | ((with_reducible refine ct_new ?_ ?_); (focus (first | with_reducible rfl | (simp only [World.size_alloc, World.size_setCell, World.size_drew, size_drewN]; done))); (focus (first | rfl | (simp; done)))) | with_reducible refine ct_set _ _ ?_ | with_reducible refine ct_alloc _ ?_ | ((with_reducible refine kc_set ?_ ?_); (focus (first | (intro hx; injection hx; omega) | (simp; done)))) | with_reducible refine kc_alloc _ ?_ | ((with_reducible refine kf_new ?_ _); (focus (first | with_reducible rfl | (simp only [World.size_alloc, World.size_setCell, World.size_drew, size_drewN]; done)))) | with_reducible refine kf_set _ _ ?_ | ((with_reducible refine kf_below hb3 ?_ ?_); (focus (simp only [World.size_alloc, World.size_setCell, World.size_drew, size_drewN]; omega))) | ((with_reducible refine kf_alloc _ ?_ ?_); (focus (first | (simp only [World.size_alloc, World.size_setCell, World.size_drew, size_drewN]; omega) | (dsimp only; omega)))) | with_reducible refine bl_alloc ?_ _ | with_reducible refine bl_drew ?_ | with_reducible refine bl_drewN ?_ _ | ((with_reducible refine bl_set ?_ ?_ _); (focus (dsimp only; omega))) | with_reducible refine bl_call ?_ hb3 | with_reducible refine gro_alloc ?_ _ | with_reducible refine gro_drew ?_ | with_reducible refine gro_drewN ?_ _ | ((with_reducible refine gro_set ?_ ?_ _); (focus (first | omega | (dsimp only; omega)))) | with_reducible refine gro_call ?_ hk3))); have HR := Lib.hid hR; clear hR hr1; have hz3 := hb3.size; (try simp only [World.size_alloc] at hz3); have g3 : w2.heap.size < w3.heap.size := (by omega); have hB : Below w.heap.size w w3 := (by (with_reducible repeat (first | exact hB | exact Below.refl _ _ | refine bl_alloc ?_ _ | refine bl_drew ?_ | refine bl_drewN ?_ _ | (refine bl_set ?_ ?_ _; (focus dsimp only; omega)) | refine bl_call ?_ hb3)))) | (go_at_call 60; refine (same_yes [6, 10] _ _ _ (HR.out.below (by (repeat (first | with_reducible rfl | with_reducible exact Below.refl _ _ | with_reducible exact gro_refl _ | with_reducible refine kc_drew ?_ | with_reducible refine kc_drewN _ ?_ | with_reducible refine kf_drew ?_ | with_reducible refine kf_drewN _ ?_ | ((with_reducible refine kc_new ?_ ?_); (focus (first | with_reducible rfl | (simp only [World.size_alloc, World.size_setCell, World.size_drew, size_drewN]; done))); (focus (first | rfl | (simp; done)))) | ((with_reducible refine kc_set0 ?_ ?_); (focus (first | rfl | (simp; done)))) | with_reducible refine ct_drew ?_ | with_reducible refine ct_drewN _ ?_ | ((with_reducible refine ct_new ?_ ?_); (focus (first | with_reducible rfl | (simp only [World.size_alloc, World.size_setCell, World.size_drew, size_drewN]; done))); (focus (first | rfl | (simp; done)))) | with_reducible refine ct_set _ _ ?_ | with_reducible refine ct_alloc _ ?_ | ((with_reducible refine kc_set ?_ ?_); (focus (first | (intro hx; injection hx; omega) | (simp; done)))) | with_reducible refine kc_alloc _ ?_ | ((with_reducible refine kf_new ?_ _); (focus (first | with_reducible rfl | (simp only [World.size_alloc, World.size_setCell, World.size_drew, size_drewN]; done)))) | with_reducible refine kf_set _ _ ?_ | ((with_reducible refine kf_alloc _ ?_ ?_); (focus (first | (simp only [World.size_alloc, World.size_setCell, World.size_drew, size_drewN]; omega) | (dsimp only; omega)))) | with_reducible refine bl_alloc ?_ _ | with_reducible refine bl_drew ?_ | with_reducible refine bl_drewN ?_ _ | ((with_reducible refine bl_set ?_ ?_ _); (focus (dsimp only; omega))) | with_reducible refine gro_alloc ?_ _ | with_reducible refine gro_drew ?_ | with_reducible refine gro_drewN ?_ _ | ((with_reducible refine gro_set ?_ ?_ _); (focus (first | omega | (dsimp only; omega)))))))) (rd_new [6, 10] (by simp)) (by decide)).mono ?_; rintro e w4 ⟨rfl, hk4⟩; have hb4 := hk4.below))
  go_ret
  exact ⟨rfl, by (repeat (first | with_reducible exact hB | with_reducible rfl | with_reducible exact Below.refl _ _ | with_reducible exact gro_refl _ | with_reducible refine kc_drew ?_ | with_reducible refine kc_drewN _ ?_ | with_reducible refine kf_drew ?_ | with_reducible refine kf_drewN _ ?_ | with_reducible refine kc_below hb4 ?_ | ((with_reducible refine kc_new ?_ ?_); (focus (first | with_reducible rfl | (simp only [World.size_alloc, World.size_setCell, World.size_drew, size_drewN]; done))); (focus (first | rfl | (simp; done)))) | ((with_reducible refine kc_set0 ?_ ?_); (focus (first | rfl | (simp; done)))) | with_reducible exact ct_of (hB) | with_reducible refine ct_drew ?_ | with_reducible refine ct_drewN _ ?_ | with_reducible refine ct_below hb4 ?_ | ((with_reducible refine ct_new ?_ ?_); (focus (first | with_reducible rfl | (simp only [World.size_alloc, World.size_setCell, World.size_drew, size_drewN]; done))); (focus (first | rfl | (simp; done)))) | with_reducible refine ct_set _ _ ?_ | with_reducible refine ct_alloc _ ?_ | ((with_reducible refine kc_set ?_ ?_); (focus (first | (intro hx; injection hx; omega) | (simp; done)))) | with_reducible refine kc_alloc _ ?_ | ((with_reducible refine kf_new ?_ _); (focus (first | with_reducible rfl | (simp only [World.size_alloc, World.size_setCell, World.size_drew, size_drewN]; done)))) | with_reducible refine kf_set _ _ ?_ | ((with_reducible refine kf_below hb4 ?_ ?_); (focus (simp only [World.size_alloc, World.size_setCell, World.size_drew, size_drewN]; omega))) | ((with_reducible refine kf_alloc _ ?_ ?_); (focus (first | (simp only [World.size_alloc, World.size_setCell, World.size_drew, size_drewN]; omega) | (dsimp only; omega)))) | with_reducible refine bl_alloc ?_ _ | with_reducible refine bl_drew ?_ | with_reducible refine bl_drewN ?_ _ | ((with_reducible refine bl_set ?_ ?_ _); (focus (dsimp only; omega))) | with_reducible refine bl_call ?_ hb4 | with_reducible refine gro_alloc ?_ _ | with_reducible refine gro_drew ?_ | with_reducible refine gro_drewN ?_ _ | ((with_reducible refine gro_set ?_ ?_ _); (focus (first | omega | (dsimp only; omega)))) | with_reducible refine gro_call ?_ hk4))⟩
end Go.Proofs.Ytoenimkgagndnaa
