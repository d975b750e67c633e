/- Exact: a round of its loop. -/
import Derived.Test.YtmigddempeecoaaRange
namespace Go.Proofs.Ytmigddempeecoaa
set_option linter.unusedVariables false
set_option linter.unusedSimpArgs false
open Go.RowKit Go.Shelf Go.Lib Go.Sort
attribute [local go_sem] Oper.semAt_some

def firstLoop : Code → Option Code
  | .loop c => some c
  | .seq a b => match firstLoop a with
    | some c => some c
    | none => firstLoop b
  | .block _ c => firstLoop c
  | .scope c => firstLoop c
  | .cond _ a b => match firstLoop a with
    | some c => some c
    | none => firstLoop b
  | _ => none
noncomputable def loopE : Code := ((Try.f49.body.bind firstLoop).getD .skip)

/-- What stands in memory at a round's head. -/
structure Head (B : Nat) (tn td wl wh pl ph k : Int) (W : World) : Prop where
  t0 : W.cell? ⟨B, 0, none⟩ = some (.int .i64 tn)
  t1 : W.cell? ⟨B, 1, none⟩ = some (.int .i64 td)
  l0 : W.cell? ⟨B + 1, 0, none⟩ = some (.int .i64 wl)
  l1 : W.cell? ⟨B + 1, 1, none⟩ = some (.int .i64 wh)
  l2 : W.cell? ⟨B + 1, 2, none⟩ = some (.int .i64 pl)
  l3 : W.cell? ⟨B + 1, 3, none⟩ = some (.int .i64 ph)
  l4 : W.cell? ⟨B + 1, 4, none⟩ = some (.int .i64 k)
  r0 : W.cell? ⟨B + 1 + 1, 0, none⟩ = some (.slice none 0 0)
  r1 : W.cell? ⟨B + 1 + 1, 1, none⟩ = some (.slice none 0 0)
  x0 : W.frozen? ⟨B + 1 + 1, 0, none⟩ = false
  x1 : W.frozen? ⟨B + 1 + 1, 1, none⟩ = false
  size : B + 1 + 1 < W.heap.size
theorem Head.below {B : Nat} {tn td wl wh pl ph k : Int} {W W1 : World} (h : Head B tn td wl wh pl ph k W) (hb : Below W.heap.size W W1) : Head B tn td wl wh pl ph k W1 := by
  obtain ⟨t0, t1, l0, l1, l2, l3, l4, r0, r1, x0, x1, hs⟩ := h
  exact ⟨kc_below hb t0, kc_below hb t1, kc_below hb l0, kc_below hb l1, kc_below hb l2, kc_below hb l3, kc_below hb l4, kc_below hb r0, kc_below hb r1, kf_below hb hs x0, kf_below hb hs x1, Nat.lt_of_lt_of_le hs hb.size⟩

/-- The bounds that checkSearch has seen to. -/
structure Fine (tn td wl wh pl ph k : Int) : Prop where
  w1 : 1 ≤ wl
  w2 : wl ≤ wh
  w3 : wh ≤ 200
  w4 : wh - wl < 64
  p1 : 1 ≤ pl
  p2 : pl ≤ ph
  p3 : ph ≤ 200
  p4 : ph - pl < 12
  k1 : 1 ≤ k
  k3 : k ≤ 3
  tn1 : 1 ≤ tn
  tn2 : tn ≤ 4611686018427387904
  td1 : 1 ≤ td
  td2 : td ≤ 4611686018427387904
  gcd : Int.gcd tn td = 1

theorem own_slice {W : World} {base k : Nat} {v : Value} {xs : List Value} (h : W.ownsRow base 3 1 v k xs) : ∃ a m, v = .slice a k m := by
  rcases Go.Joins.ownsRow_forms h with ⟨rfl, rfl⟩ | ⟨g, m, rfl⟩
  · exact ⟨none, 0, rfl⟩
  · exact ⟨_, m, rfl⟩
theorem bestS_pick {tn td wl wh pl ph : Int} {st : Nat} (hst : 1 ≤ st) : Pick tn td (trainsL st (sidesL wl wh st false) (sidesL pl ph st true) tn td) (bestS tn td wl wh pl ph st) :=
  bestE_spec tn td _ fun t ht => by
    have := (trains_sides ht).1
    omega
theorem bestS_n {tn td wl wh pl ph : Int} {st : Nat} (hst : 1 ≤ st) (h : 1 ≤ (bestS tn td wl wh pl ph st).n) : (bestS tn td wl wh pl ph st).n = st := by
  rcases bestS_pick hst with ⟨h0, _⟩ | ⟨_, h1, _⟩
  · rw [h0] at h; omega
  · exact (trains_sides h1).1

set_option maxHeartbeats 4000000 in
set_option maxRecDepth 100000 in
theorem round_any (v0 v1 v5 v6 v8 v9 v10 v11 v12 v13 v14 v15 v16 v17 v18 v19 v20 v21 v22 v23 v24 v25 v26 v27 v43 v44 v45 v46 v47 v48 : Value) (ds : List Deferred)
    (B : Nat) (tn td wl wh pl ph k : Int) (st : Nat) (w : World) (Q : Exit → Act → World → Prop) (hF : Fine tn td wl wh pl ph k) (hH : Head B tn td wl wh pl ph k w) (hst1 : 1 ≤ st) (hst : (st : Int) ≤ k)
    (hmiss : (bestS tn td wl wh pl ph st).n < 1 → ∀ (v8 v9 v10 v11 v12 v13 v14 v15 v16 v17 v18 v19 v20 v21 v22 v23 v24 v25 v26 v27 v43 v44 v45 v46 v47 v48 : Value) (D : Nat) (W' : World),
      Below w.heap.size w W' → w.heap.size ≤ D → W'.heap[D]? = some (.deferred (some [])) →
      Q .normal ⟨#[v0, v1, .pointer (some ⟨B, 0, none⟩), .pointer (some ⟨B + 1, 0, none⟩), .pointer (some ⟨B + 1 + 1, 0, none⟩), v5, v6, .int .i64 ((st : Int) + 1), v8, v9, v10, v11, v12, v13, v14, v15, v16, v17, v18, v19, v20, v21, v22, v23, v24, v25, v26, v27, undef, undef, undef, undef, undef, undef, undef, undef, undef, undef, undef, undef, undef, undef, undef, v43, v44, v45, v46, v47, v48], { target := .collected D, args := #[] } :: ds⟩ W')
    (hhit : 1 ≤ (bestS tn td wl wh pl ph st).n → ∀ (v8 v9 v10 v11 v12 v13 v14 v15 v16 v17 v18 v19 v20 v21 v22 v23 v24 v25 v26 v27 v43 v44 v45 v46 v47 v48 s0 s1 : Value) (D : Nat) (W' : World),
      Below (B + 1 + 1) w W' → (∀ i, i < w.heap.size → i ≠ B + 1 + 1 → W'.heap[i]? = w.heap[i]?) → w.heap.size ≤ D → W'.heap[D]? = some (.deferred (some [])) →
      W'.cell? ⟨B + 1 + 1, 0, none⟩ = some s0 → W'.cell? ⟨B + 1 + 1, 1, none⟩ = some s1 →
      W'.ownsRow w.heap.size 3 1 s0 st ((bestS tn td wl wh pl ph st).w.row st) → W'.ownsRow w.heap.size 3 1 s1 st ((bestS tn td wl wh pl ph st).p.row st) →
      Q .ret ⟨#[v0, v1, .pointer (some ⟨B, 0, none⟩), .pointer (some ⟨B + 1, 0, none⟩), .pointer (some ⟨B + 1 + 1, 0, none⟩), .int .i64 0, v6, .int .i64 (st : Int), v8, v9, v10, v11, v12, v13, v14, v15, v16, v17, v18, v19, v20, v21, v22, v23, v24, v25, v26, v27, undef, undef, undef, undef, undef, undef, undef, undef, undef, undef, undef, undef, undef, undef, undef, v43, v44, v45, v46, v47, v48], { target := .collected D, args := #[] } :: ds⟩ W') :
    Code.wpIn Fence.wide 6 Try.prog loopE Q ⟨#[v0, v1, .pointer (some ⟨B, 0, none⟩), .pointer (some ⟨B + 1, 0, none⟩), .pointer (some ⟨B + 1 + 1, 0, none⟩), v5, v6, .int .i64 (st : Int), v8, v9, v10, v11, v12, v13, v14, v15, v16, v17, v18, v19, v20, v21, v22, v23, v24, v25, v26, v27, undef, undef, undef, undef, undef, undef, undef, undef, undef, undef, undef, undef, undef, undef, undef, v43, v44, v45, v46, v47, v48], ds⟩ w := by
  have hH' := hH
  obtain ⟨t0, t1, l0, l1, l2, l3, l4, r0, r1, x0, x1, hs⟩ := hH
  obtain ⟨w1, w2_, w3, w4, p1, p2, p3, p4, k1, k3, tn1, tn2, td1, td2, hgcd⟩ := hF
  have hT := fun W => trainsF_any tn td wl wh pl ph k st W
  have HT := fun W => Lib.hid (hT W)
  clear hT
  have HM := Lib.hid hmiss
  have HI := Lib.hid hhit
  clear hmiss hhit hgcd
  have g0 : B < w.heap.size := by omega
  have g1 : B + 1 < w.heap.size := by omega
  conv => arg 4; whnf
  gi_wp2_with (refine ⟨trivial, ?_⟩; gi_at_call 82; refine (callsIn_wide.2 (HT _).out).mono ?_; rintro x w2 ⟨rfl, hk2, hz2, hcap⟩; simp only [World.size_alloc] at hz2 hcap)
  have hbbw : w.heap.size < w2.heap.size := by omega
  have b2 := hk2.below
  have bo : box11 w2 w.heap.size zeroTr := by
    unfold box11 zeroTr
    refine ⟨?_, ?_, ?_, ?_, ?_, ?_, ?_, ?_, ?_, ?_, ?_⟩ <;> exact kc_below b2 (kc_new rfl rfl)
  have fo : fz11 w2 w.heap.size := by
    unfold fz11
    refine ⟨?_, ?_, ?_, ?_, ?_, ?_, ?_, ?_, ?_, ?_, ?_⟩ <;> exact kf_below b2 (by simp) (kf_new rfl _)
  have B2 : Below w.heap.size w w2 := by (repeat (first | with_reducible exact Below.refl _ _ | with_reducible refine bl_alloc ?_ _ | with_reducible refine bl_drew ?_ | with_reducible refine bl_drewN ?_ _ | ((with_reducible refine bl_set ?_ ?_ _); (focus (dsimp only; omega))) | with_reducible refine bl_call ?_ b2))
  have tt0 : w2.cell? ⟨B, 0, none⟩ = some (.int .i64 tn) := kc_below B2 t0
  have tt1 : w2.cell? ⟨B, 1, none⟩ = some (.int .i64 td) := kc_below B2 t1
  refine range_any _ _ _ _ _ _ _ _ _ _ _ _ _ _ _ _ _ _ _ _ _ _ _ _ _ _ _ _ _ _ _ _ B w.heap.size _ _ _ tn td wl wh pl ph st w2 _ hcap hbbw (by omega) (by omega) (by omega) (by omega) tt0 tt1 w1 w2_ w3 w4 p1 p2 p3 (by omega) (by omega) hst1 (by omega) tn2 td1 td2 bo fo ?_
  intro D W' hD hbl hkp hb hf hd
  have hn := fun h => bestS_n (tn := tn) (td := td) (wl := wl) (wh := wh) (pl := pl) (ph := ph) hst1 h
  generalize bestS tn td wl wh pl ph st = t at *
  have BW : Below w.heap.size w W' := B2.trans hbl
  have hzw := BW.size
  by_cases hm : t.n < 1
  · obtain ⟨n', ⟨a, b, c, p, s⟩, ⟨a', b', c', p', s'⟩⟩ := t
    obtain ⟨c0, c1, c2, c3, c4, c5, c6, c7, c8, c9, c10⟩ := hb
    simp only at hm c0
    gi_wp2_with fail
    exact HM.out hm _ _ _ _ _ _ _ _ _ _ _ _ _ _ _ _ _ _ _ _ _ _ _ _ _ _ D W' BW (by omega) hd
  · have h1 : 1 ≤ t.n := by omega
    have HG := fun W => Lib.hid (given_any t st W (by omega) (hn h1))
    have hsz : B + 1 + 1 < W'.heap.size := by omega
    have q0 : W'.cell? ⟨B + 1 + 1, 0, none⟩ = some (.slice none 0 0) := kc_below BW r0
    have q1 : W'.cell? ⟨B + 1 + 1, 1, none⟩ = some (.slice none 0 0) := kc_below BW r1
    have z0 : W'.frozen? ⟨B + 1 + 1, 0, none⟩ = false := kf_below BW hs x0
    have z1 : W'.frozen? ⟨B + 1 + 1, 1, none⟩ = false := kf_below BW hs x1
    obtain ⟨n', ⟨a, b, c, p, s⟩, ⟨a', b', c', p', s'⟩⟩ := t
    obtain ⟨c0, c1, c2, c3, c4, c5, c6, c7, c8, c9, c10⟩ := hb
    simp only at hm h1 c0 c1 c2 c3 c4 c5 c6 c7 c8 c9 c10
    simp only [Tr.val, Tr.cells] at HG
    clear bo fo hf hcap hn tt0 tt1 t0 t1 l0 l1 l2 l3 l4
    gi_wp2_with (refine ⟨trivial, ?_⟩; gi_at_call 85; refine (callsIn_wide.2 (HG _).out).mono ?_; rintro x w3 ⟨s0, s1, rfl, ho1, ho2, hb3⟩; obtain ⟨p0, m0, rfl⟩ := own_slice ho1; obtain ⟨p1, m1, rfl⟩ := own_slice ho2; have HO1 := Lib.hid ho1; have HO2 := Lib.hid ho2; clear ho1 ho2; have y0 : w3.cell? ⟨B + 1 + 1, 0, none⟩ = some (.slice none 0 0) := (kc_below hb3 q0); have y1 : w3.cell? ⟨B + 1 + 1, 1, none⟩ = some (.slice none 0 0) := (kc_below hb3 q1); have u0 : w3.frozen? ⟨B + 1 + 1, 0, none⟩ = false := (kf_below hb3 hsz z0); have u1 : w3.frozen? ⟨B + 1 + 1, 1, none⟩ = false := (kf_below hb3 hsz z1))
    have B3 : Below w.heap.size w w3 := BW.trans (hb3.mono hzw)
    have hDl : D < W'.heap.size := (Array.getElem?_eq_some_iff.1 hd).1
    refine HI.out h1 _ _ _ _ _ _ _ _ _ _ _ _ _ _ _ _ _ _ _ _ _ _ _ _ _ _ (.slice p0 st m0) (.slice p1 st m1) D _ (((B3.mono (Nat.le_of_lt hs)).setCell (Nat.le_refl _) _).setCell (Nat.le_refl _) _) ?_ (by omega) ?_ ?_ ?_ ?_ ?_
    · intro i hi hne
      rw [Below.heap_setCell _ _ _ _ hne, Below.heap_setCell _ _ _ _ hne]
      exact B3.block i hi
    · rw [Below.heap_setCell _ _ _ _ (by simp only; omega), Below.heap_setCell _ _ _ _ (by simp only; omega)]
      exact (hb3.block D hDl).trans hd
    · (repeat (first | with_reducible exact y0 | with_reducible exact y1 | with_reducible rfl | with_reducible exact Below.refl _ _ | with_reducible exact gro_refl _ | with_reducible refine kc_drew ?_ | with_reducible refine kc_drewN _ ?_ | with_reducible refine kf_drew ?_ | with_reducible refine kf_drewN _ ?_ | ((with_reducible refine kc_new ?_ ?_); (focus (first | with_reducible rfl | (simp only [World.size_alloc, World.size_setCell, World.size_drew, size_drewN]; done))); (focus (first | rfl | (simp; done)))) | ((with_reducible refine kc_set0 ?_ ?_); (focus (first | rfl | (simp; done)))) | with_reducible exact ct_of (y0) | with_reducible exact ct_of (y1) | with_reducible refine ct_drew ?_ | with_reducible refine ct_drewN _ ?_ | ((with_reducible refine ct_new ?_ ?_); (focus (first | with_reducible rfl | (simp only [World.size_alloc, World.size_setCell, World.size_drew, size_drewN]; done))); (focus (first | rfl | (simp; done)))) | with_reducible refine ct_set _ _ ?_ | with_reducible refine ct_alloc _ ?_ | ((with_reducible refine kc_set ?_ ?_); (focus (first | (intro hx; injection hx; omega) | (simp; done)))) | with_reducible refine kc_alloc _ ?_ | ((with_reducible refine kf_new ?_ _); (focus (first | with_reducible rfl | (simp only [World.size_alloc, World.size_setCell, World.size_drew, size_drewN]; done)))) | with_reducible refine kf_set _ _ ?_ | ((with_reducible refine kf_alloc _ ?_ ?_); (focus (first | (simp only [World.size_alloc, World.size_setCell, World.size_drew, size_drewN]; omega) | (dsimp only; omega)))) | with_reducible refine bl_alloc ?_ _ | with_reducible refine bl_drew ?_ | with_reducible refine bl_drewN ?_ _ | ((with_reducible refine bl_set ?_ ?_ _); (focus (dsimp only; omega))) | with_reducible refine gro_alloc ?_ _ | with_reducible refine gro_drew ?_ | with_reducible refine gro_drewN ?_ _ | ((with_reducible refine gro_set ?_ ?_ _); (focus (first | omega | (dsimp only; omega))))))
    · (repeat (first | with_reducible exact y0 | with_reducible exact y1 | with_reducible rfl | with_reducible exact Below.refl _ _ | with_reducible exact gro_refl _ | with_reducible refine kc_drew ?_ | with_reducible refine kc_drewN _ ?_ | with_reducible refine kf_drew ?_ | with_reducible refine kf_drewN _ ?_ | ((with_reducible refine kc_new ?_ ?_); (focus (first | with_reducible rfl | (simp only [World.size_alloc, World.size_setCell, World.size_drew, size_drewN]; done))); (focus (first | rfl | (simp; done)))) | ((with_reducible refine kc_set0 ?_ ?_); (focus (first | rfl | (simp; done)))) | with_reducible exact ct_of (y0) | with_reducible exact ct_of (y1) | with_reducible refine ct_drew ?_ | with_reducible refine ct_drewN _ ?_ | ((with_reducible refine ct_new ?_ ?_); (focus (first | with_reducible rfl | (simp only [World.size_alloc, World.size_setCell, World.size_drew, size_drewN]; done))); (focus (first | rfl | (simp; done)))) | with_reducible refine ct_set _ _ ?_ | with_reducible refine ct_alloc _ ?_ | ((with_reducible refine kc_set ?_ ?_); (focus (first | (intro hx; injection hx; omega) | (simp; done)))) | with_reducible refine kc_alloc _ ?_ | ((with_reducible refine kf_new ?_ _); (focus (first | with_reducible rfl | (simp only [World.size_alloc, World.size_setCell, World.size_drew, size_drewN]; done)))) | with_reducible refine kf_set _ _ ?_ | ((with_reducible refine kf_alloc _ ?_ ?_); (focus (first | (simp only [World.size_alloc, World.size_setCell, World.size_drew, size_drewN]; omega) | (dsimp only; omega)))) | with_reducible refine bl_alloc ?_ _ | with_reducible refine bl_drew ?_ | with_reducible refine bl_drewN ?_ _ | ((with_reducible refine bl_set ?_ ?_ _); (focus (dsimp only; omega))) | with_reducible refine gro_alloc ?_ _ | with_reducible refine gro_drew ?_ | with_reducible refine gro_drewN ?_ _ | ((with_reducible refine gro_set ?_ ?_ _); (focus (first | omega | (dsimp only; omega))))))
    · refine Go.Joins.ownsRow_le (ownsRow_setCell_below (ownsRow_setCell_below HO1.out ?_ _) ?_ _) ?_
      all_goals (try simp only)
      all_goals omega
    · refine Go.Joins.ownsRow_le (ownsRow_setCell_below (ownsRow_setCell_below HO2.out ?_ _) ?_ _) ?_
      all_goals (try simp only)
      all_goals omega
end Go.Proofs.Ytmigddempeecoaa
