/- Exact: its range over the trains, at any frame. -/
import Derived.Test.YtmigddempeecoaaBodyAll
import Derived.RangeFuncNested
import Derived.RangeFuncWrites
import Derived.RangeFuncFrom
namespace Go.Proofs.Ytmigddempeecoaa
set_option linter.unusedVariables false
set_option linter.unusedSimpArgs false
open Go.RowKit Go.Shelf Go.Lib Go.Sort
attribute [local go_sem] Oper.semAt_some

def wholeRange : Code → Option Code
  | .rangeFunc g ps a b => some (.rangeFunc g ps a b)
  | .loop c => wholeRange c
  | .seq a b => match wholeRange a with
    | some c => some c
    | none => wholeRange b
  | .block _ c => wholeRange c
  | .scope c => wholeRange c
  | .cond _ a b => match wholeRange a with
    | some c => some c
    | none => wholeRange b
  | _ => none
noncomputable def rangeE : Code := ((Try.f49.body.bind wholeRange).getD .skip)

/-- What Exact picks among the trains of so many stages. -/
def bestS (tn td wl wh pl ph : Int) (st : Nat) : Tr := bestE tn td (trainsL st (sidesL wl wh st false) (sidesL pl ph st true) tn td)

set_option maxHeartbeats 2000000 in
set_option maxRecDepth 100000 in
theorem range_any (v0 v1 v3 v4 v5 v6 v7 v9 v10 v11 v12 v13 v14 v15 v16 v17 v18 v19 v20 v21 v22 v23 v24 v25 v27 v43 v44 v45 v46 v47 v48 : Value) (ds : List Deferred)
    (b0 bb bl bs bt : Nat) (tn td wl wh pl ph : Int) (st : Nat) (w : World) (Q : Exit → Act → World → Prop)
    (hcap : Cap w bl bs bt wl wh pl ph st tn td) (hbb : bb < w.heap.size) (n0 : b0 ≠ bb) (nl : bl ≠ bb) (ns : bs ≠ bb) (nt : bt ≠ bb)
    (h0 : w.cell? ⟨b0, 0, none⟩ = some (.int .i64 tn)) (h1 : w.cell? ⟨b0, 1, none⟩ = some (.int .i64 td))
    (w1 : 1 ≤ wl) (w2 : wl ≤ wh) (w3 : wh ≤ 200) (w4 : wh - wl < 64) (p1 : 1 ≤ pl) (p2 : pl ≤ ph) (p3 : ph ≤ 200) (p4 : ph - pl < 64) (hst : st ≤ 3) (hst1 : 1 ≤ st)
    (ht : -4611686018427387904 ≤ tn) (ht' : tn ≤ 4611686018427387904) (hu : 1 ≤ td) (hu' : td ≤ 4611686018427387904)
    (bo : box11 w bb zeroTr) (fo : fz11 w bb)
    (hQ : ∀ D W', w.heap.size ≤ D → Below bb w W' → KpB bb w W' → box11 W' bb (bestS tn td wl wh pl ph st) → fz11 W' bb → W'.heap[D]? = some (.deferred (some [])) → Q .normal ⟨#[v0, v1, .pointer (some ⟨b0, 0, none⟩), v3, v4, v5, v6, v7, .pointer (some ⟨bb, 0, none⟩), v9, v10, v11, v12, v13, v14, v15, v16, v17, v18, v19, v20, v21, v22, v23, v24, v25,
      .func (.func 104) #[] #[.pointer (some ⟨bl, 0, none⟩), .pointer (some ⟨bs, 0, none⟩), .pointer (some ⟨bt, 0, none⟩)], v27, undef, undef, undef, undef, undef, undef, undef, undef, undef, undef, undef, undef, undef, undef, undef, v43, v44, v45, v46, v47, v48], { target := .collected D, args := #[] } :: ds⟩ W') :
    Code.wpIn Fence.wide 6 Try.prog rangeE Q ⟨#[v0, v1, .pointer (some ⟨b0, 0, none⟩), v3, v4, v5, v6, v7, .pointer (some ⟨bb, 0, none⟩), v9, v10, v11, v12, v13, v14, v15, v16, v17, v18, v19, v20, v21, v22, v23, v24, v25,
      .func (.func 104) #[] #[.pointer (some ⟨bl, 0, none⟩), .pointer (some ⟨bs, 0, none⟩), .pointer (some ⟨bt, 0, none⟩)], v27, undef, undef, undef, undef, undef, undef, undef, undef, undef, undef, undef, undef, undef, undef, undef, v43, v44, v45, v46, v47, v48], ds⟩ w := by
  conv => arg 4; whnf
  refine wpIn_rangeFunc_ownH rfl (by decide) (gf := 104) (lb := #[.pointer (some ⟨bl, 0, none⟩), .pointer (some ⟨bs, 0, none⟩), .pointer (some ⟨bt, 0, none⟩)]) rfl trivial (enters_of Try.func104 (by kernel_rfl) rfl)
    (trains_stops 5 (by decide) bb bl bs bt wl wh pl ph st tn td w hcap hbb nl ns nt w1 w2 w3 w4 p1 p2 p3 p4 hst hst1 ht ht' hu hu')
    kp_trans (fun W l o o' hl ho hc _ => kp_put W l o o' ho hc) (Below.refl _ _) (fun _ => rfl)
    (fun pre W => box11 W bb (bestE tn td (pre.map clampT)) ∧ fz11 W bb ∧ KpB bb w W ∧ Below bb w W) (fun _ _ _ => False) ?hI ?hIx ⟨bo, fo, kp_refl _ _, Below.refl _ _⟩
    (fun x a' W => ∃ Bx, w.heap.size ≤ Bx ∧ box11 W Bx (clampT x) ∧ a' = ⟨#[v0, v1, .pointer (some ⟨b0, 0, none⟩), v3, v4, v5, v6, v7, .pointer (some ⟨bb, 0, none⟩), .pointer (some ⟨Bx, 0, none⟩), v10, v11, v12, v13, v14, v15, v16, v17, v18, v19, v20, v21, v22, v23, v24, v25,
      .func (.func 104) #[] #[.pointer (some ⟨bl, 0, none⟩), .pointer (some ⟨bs, 0, none⟩), .pointer (some ⟨bt, 0, none⟩)], (clampT x).val, undef, undef, undef, undef, undef, undef, undef, undef, undef, undef, undef, undef, undef, undef, undef, v43, v44, v45, v46, v47, v48], []⟩) ?hAx ?assign ?body ?done ?stop
  case hI =>
    rintro s A B row ⟨hb, hf, hk, hbl⟩ hg hr
    have hr' := fun r e => (hr r e).2
    have kq : KpB bb A B := ⟨hg.size, fun k cs e fr _ h => grownBy_keeps_cells hg hr' h rfl⟩
    have hb' := hb
    obtain ⟨g0, g1, g2, g3, g4, g5, g6, g7, g8, g9, g10⟩ := hb
    obtain ⟨z0, z1, z2, z3, z4, z5, z6, z7, z8, z9, z10⟩ := hf
    exact ⟨box_map hb' fun _ _ hv => cell_kept hv hg hr', ⟨(frozen_kept g0 hg hr').trans z0, (frozen_kept g1 hg hr').trans z1, (frozen_kept g2 hg hr').trans z2, (frozen_kept g3 hg hr').trans z3, (frozen_kept g4 hg hr').trans z4, (frozen_kept g5 hg hr').trans z5, (frozen_kept g6 hg hr').trans z6, (frozen_kept g7 hg hr').trans z7, (frozen_kept g8 hg hr').trans z8, (frozen_kept g9 hg hr').trans z9, (frozen_kept g10 hg hr').trans z10⟩, kp_trans hk kq,
      hbl.grown hg (Nat.le_of_lt (Nat.lt_of_lt_of_le hbb hbl.size)) (fun r e => Nat.le_of_lt (Nat.lt_of_lt_of_le hbb (hr r e).1))⟩
  case hAx =>
    rintro x a' s A B row ⟨Bx, hB, hx, ha⟩ hg hr
    exact ⟨Bx, hB, box_map hx fun _ _ hv => cell_kept hv hg (fun r e => (hr r e).2), ha⟩
  case hIx => exact fun _ _ _ _ _ hs _ _ => hs
  case stop =>
    rintro D c pre W _ _ h _
    exact h.elim
  case body =>
    rintro l pre x a' W hl ⟨r, hr⟩ ⟨hb, hf, hk, hbl⟩ ⟨Bx, hBx, hx, rfl⟩ hlt
    have hcl := clamp_ok x
    have hbc := best_clamp tn td pre
    have et0 := kp_cell hk (a := ⟨b0, 0, none⟩) (v := .int .i64 tn) n0 h0
    have et1 := kp_cell hk (a := ⟨b0, 1, none⟩) (v := .int .i64 td) n0 h1
    refine body_any l _ _ _ _ _ _ _ _ _ _ _ _ _ _ _ _ _ _ _ _ _ _ _ _ _ _ _ _ _ _ _ _ b0 bb Bx tn td (clampT x) (bestE tn td (pre.map clampT)) W _ et0 et1 hcl.1 hcl.2.1 hbc.1 hbc.2 hx (Nat.lt_of_lt_of_le hbb hk.1) hb hf ?_
    intro a' W' hko hkp hkb hbx hfz
    refine ⟨hko.from _, hkp, ?_, hfz, kp_trans hk hkp, hbl.trans hkb⟩
    rw [List.map_append, List.map_singleton, bestE_snoc]
    exact hbx
  case assign =>
    intro l pre x W K ⟨hb, hf, hk, hbl⟩ hK
    have hbW := Nat.lt_of_lt_of_le hbb hk.1
    have key : ∀ W', Below W.heap.size W W' → KeepsFrom w.heap.size W W' ∧ KpB bb W W' ∧ (box11 W' bb (bestE tn td (pre.map clampT)) ∧ fz11 W' bb ∧ KpB bb w W' ∧ Below bb w W') := fun W' hB => by
      have k1 : KpB bb W W' := ⟨hB.size, fun k cs e fr _ hh => hB.block k (Array.getElem?_eq_some_iff.1 hh).1⟩
      have k2 : KeepsOthers W W' := ⟨hB.size, fun k o hh _ => (hB.block k (Array.getElem?_eq_some_iff.1 hh).1).trans hh⟩
      obtain ⟨z0, z1, z2, z3, z4, z5, z6, z7, z8, z9, z10⟩ := hf
      exact ⟨k2.from _, k1, box_map hb fun _ _ hv => kc_below hB hv, ⟨kf_below hB hbW z0, kf_below hB hbW z1, kf_below hB hbW z2, kf_below hB hbW z3, kf_below hB hbW z4, kf_below hB hbW z5, kf_below hB hbW z6, kf_below hB hbW z7, kf_below hB hbW z8, kf_below hB hbW z9, kf_below hB hbW z10⟩, kp_trans hk k1, hbl.trans (hB.mono (Nat.le_of_lt hbW))⟩
    have hle := hk.1
    clear hb hf hk hbl hQ hcap h0 h1 bo fo
    generalize clampT x = y at hK ⊢
    obtain ⟨n', ⟨a, b, c, p, s⟩, ⟨a', b', c', p', s'⟩⟩ := y
    simp only [Tr.val, Tr.cells] at hK ⊢
    gi_wp2_with fail
    refine (fun hBB hx => hK _ _ (key _ hBB).1 (key _ hBB).2.1 (key _ hBB).2.2 ⟨W.heap.size, hle, hx, rfl⟩) ?_ ?_
    · (repeat (first | with_reducible rfl | with_reducible exact Below.refl _ _ | with_reducible exact gro_refl _ | with_reducible refine kc_drew ?_ | with_reducible refine kc_drewN _ ?_ | with_reducible refine kf_drew ?_ | with_reducible refine kf_drewN _ ?_ | ((with_reducible refine kc_new ?_ ?_); (focus (first | with_reducible rfl | (simp only [World.size_alloc, World.size_setCell, World.size_drew, size_drewN]; done))); (focus (first | rfl | (simp; done)))) | ((with_reducible refine kc_set0 ?_ ?_); (focus (first | rfl | (simp; done)))) | with_reducible refine ct_drew ?_ | with_reducible refine ct_drewN _ ?_ | ((with_reducible refine ct_new ?_ ?_); (focus (first | with_reducible rfl | (simp only [World.size_alloc, World.size_setCell, World.size_drew, size_drewN]; done))); (focus (first | rfl | (simp; done)))) | with_reducible refine ct_set _ _ ?_ | with_reducible refine ct_alloc _ ?_ | ((with_reducible refine kc_set ?_ ?_); (focus (first | (intro hx; injection hx; omega) | (simp; done)))) | with_reducible refine kc_alloc _ ?_ | ((with_reducible refine kf_new ?_ _); (focus (first | with_reducible rfl | (simp only [World.size_alloc, World.size_setCell, World.size_drew, size_drewN]; done)))) | with_reducible refine kf_set _ _ ?_ | ((with_reducible refine kf_alloc _ ?_ ?_); (focus (first | (simp only [World.size_alloc, World.size_setCell, World.size_drew, size_drewN]; omega) | (dsimp only; omega)))) | with_reducible refine bl_alloc ?_ _ | with_reducible refine bl_drew ?_ | with_reducible refine bl_drewN ?_ _ | ((with_reducible refine bl_set ?_ ?_ _); (focus (dsimp only; omega))) | with_reducible refine gro_alloc ?_ _ | with_reducible refine gro_drew ?_ | with_reducible refine gro_drewN ?_ _ | ((with_reducible refine gro_set ?_ ?_ _); (focus (first | omega | (dsimp only; omega))))))
    · unfold box11
      refine ⟨?_, ?_, ?_, ?_, ?_, ?_, ?_, ?_, ?_, ?_, ?_⟩
      all_goals (repeat (first | with_reducible rfl | with_reducible exact Below.refl _ _ | with_reducible exact gro_refl _ | with_reducible refine kc_drew ?_ | with_reducible refine kc_drewN _ ?_ | with_reducible refine kf_drew ?_ | with_reducible refine kf_drewN _ ?_ | ((with_reducible refine kc_new ?_ ?_); (focus (first | with_reducible rfl | (simp only [World.size_alloc, World.size_setCell, World.size_drew, size_drewN]; done))); (focus (first | rfl | (simp; done)))) | ((with_reducible refine kc_set0 ?_ ?_); (focus (first | rfl | (simp; done)))) | with_reducible refine ct_drew ?_ | with_reducible refine ct_drewN _ ?_ | ((with_reducible refine ct_new ?_ ?_); (focus (first | with_reducible rfl | (simp only [World.size_alloc, World.size_setCell, World.size_drew, size_drewN]; done))); (focus (first | rfl | (simp; done)))) | with_reducible refine ct_set _ _ ?_ | with_reducible refine ct_alloc _ ?_ | ((with_reducible refine kc_set ?_ ?_); (focus (first | (intro hx; injection hx; omega) | (simp; done)))) | with_reducible refine kc_alloc _ ?_ | ((with_reducible refine kf_new ?_ _); (focus (first | with_reducible rfl | (simp only [World.size_alloc, World.size_setCell, World.size_drew, size_drewN]; done)))) | with_reducible refine kf_set _ _ ?_ | ((with_reducible refine kf_alloc _ ?_ ?_); (focus (first | (simp only [World.size_alloc, World.size_setCell, World.size_drew, size_drewN]; omega) | (dsimp only; omega)))) | with_reducible refine bl_alloc ?_ _ | with_reducible refine bl_drew ?_ | with_reducible refine bl_drewN ?_ _ | ((with_reducible refine bl_set ?_ ?_ _); (focus (dsimp only; omega))) | with_reducible refine gro_alloc ?_ _ | with_reducible refine gro_drew ?_ | with_reducible refine gro_drewN ?_ _ | ((with_reducible refine gro_set ?_ ?_ _); (focus (first | omega | (dsimp only; omega))))))
  case done =>
    rintro D xs W hD rfl ⟨hb, hf, hk, hbl⟩ hd
    rw [map_clamp (clamp_mem w1 w2 w3 p1 p2 p3 hst hst1 tn td)] at hb
    exact hQ D W hD hbl hk hb hf hd
end Go.Proofs.Ytmigddempeecoaa
