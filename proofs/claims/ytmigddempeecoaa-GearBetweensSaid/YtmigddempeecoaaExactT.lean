/- Exact: the whole call. -/
import Derived.Test.YtmigddempeecoaaExact
namespace Go.Proofs.Ytmigddempeecoaa
set_option linter.unusedVariables false
set_option linter.unusedSimpArgs false
open Go.RowKit Go.Shelf Go.Lib Go.Sort
attribute [local go_sem] Oper.semAt_some

theorem cs_fine {n d a b c e k : Int} (h : csF n d a b c e k = 0) : Fine n d a b c e k := by
  unfold csF at h
  by_cases ho : okF n d
  · rw [if_pos ho] at h
    by_cases hv : vlF a b c e k = true ∧ 0 < n
    · obtain ⟨hv, hn⟩ := hv
      unfold vlF vtF at hv
      simp only [Bool.and_eq_true, decide_eq_true_eq] at hv
      unfold okF at ho
      exact ⟨by omega, by omega, by omega, by omega, by omega, by omega, by omega, by omega, by omega, by omega, by omega, by omega, by omega, by omega, ho.2.2.2.2⟩
    · rw [if_neg hv] at h
      cases h
  · rw [if_neg ho] at h
    cases h

/-- What Exact returns, of a good call. -/
def ExPost (t : Tr) (w : World) (e : Ending) (w' : World) : Prop :=
  Below w.heap.size w w' ∧ ((t.n < 1 ∧ e = .returned (.tuple #[.agg #[.slice none 0 0, .slice none 0 0], .int .i64 6])) ∨
    ∃ (st : Nat) (a : Option Addr) (m : Nat) (b : Option Addr) (k : Nat), t.n = st ∧ 1 ≤ st ∧ e = .returned (.tuple #[.agg #[.slice a st m, .slice b st k], .int .i64 0]) ∧
      w'.ownsRow w.heap.size 3 1 (.slice a st m) st (t.w.row st) ∧ w'.ownsRow w.heap.size 3 1 (.slice b st k) st (t.p.row st))

theorem own_only {Ds : List Nat} {W W' : World} {base k : Nat} {v : Value} {xs : List Value} (hW : ∀ D ∈ Ds, W.heap[D]? = some (.deferred (some []))) (hO : OnlyAt Ds W W') (h : W.ownsRow base 3 1 v k xs) : W'.ownsRow base 3 1 v k xs := by
  refine ⟨h.1, h.2.imp_right ?_⟩
  rintro ⟨g, cap, cur, hv, hl, hg, rest⟩
  refine ⟨g, cap, cur, hv, hl, (hO.block g fun hD => ?_).trans hg, rest⟩
  rw [hW g hD] at hg
  cases hg
theorem below_only {Ds : List Nat} {B : Nat} {w W W' : World} (hb : Below B w W) (hl : ∀ D ∈ Ds, B ≤ D) (hO : OnlyAt Ds W W') : Below B w W' :=
  hb.trans ⟨hO.os, hO.tape, hO.output, by rw [hO.size]; exact Nat.le_refl _, fun k hk => hO.block k fun hD => by have := hl k hD; omega⟩
theorem cell_only {Ds : List Nat} {W W' : World} {a : Addr} {v : Value} (hO : OnlyAt Ds W W') (ha : a.block ∉ Ds) (h : W.cell? a = some v) : W'.cell? a = some v := (World.cell?_of_block (hO.block _ ha)).trans h

set_option maxHeartbeats 2000000 in
set_option maxRecDepth 100000 in
theorem exact_fine (n d a b c e k : Int) (w : World) (hc : csF n d a b c e k = 0) :
    Calls Try.prog 49 #[.agg #[.int .i64 n, .int .i64 d], .agg #[.int .i64 a, .int .i64 b, .int .i64 c, .int .i64 e, .int .i64 k]] w (ExPost (exS n d a b c e k.toNat 1) w) := by
  have hF := cs_fine hc
  have hC := fun W => checkSearch_any n d a b c e k W (by have := hF.tn1; omega) (by have := hF.tn2; omega) (by have := hF.td1; omega) (by have := hF.td2; omega)
  rw [hc] at hC
  refine (callsIn_wide (n := 6)).1 ?_
  refine callsIn_of_wp_marks Try.func49 rfl trivial ?_ rfl
  simp only [Try.ntmps49, List.size_toArray, List.length_cons, List.length_nil, Nat.reduceAdd, Nat.reduceSub, Array.replicate_succ, Array.replicate_zero, List.push_toArray, List.append_toArray, List.nil_append, List.cons_append]
  gi_wp2_with (refine ⟨trivial, ?_⟩; gi_at_call 81; refine (callsIn_wide.2 (hC _)).mono ?_; rintro x w1 ⟨rfl, hk1⟩; have hb1 := hk1.below; obtain ⟨hc1, hf1⟩ := bcell hb1; simp only [World.size_alloc] at hc1 hf1)
  have hz1 := hb1.size
  simp only [World.size_alloc] at hz1
  have hH : Head w.heap.size n d a b c e k w1 := by
    refine ⟨?_, ?_, ?_, ?_, ?_, ?_, ?_, ?_, ?_, ?_, ?_, by omega⟩
    all_goals (repeat (first | with_reducible rfl | with_reducible exact Below.refl _ _ | with_reducible exact gro_refl _ | with_reducible refine kc_drew ?_ | with_reducible refine kc_drewN _ ?_ | with_reducible refine kf_drew ?_ | with_reducible refine kf_drewN _ ?_ | with_reducible refine kc_below hb1 ?_ | ((with_reducible refine kc_new ?_ ?_); (focus (first | with_reducible rfl | (simp only [World.size_alloc, World.size_setCell, World.size_drew, size_drewN]; done))); (focus (first | rfl | (simp; done)))) | ((with_reducible refine kc_set0 ?_ ?_); (focus (first | rfl | (simp; done)))) | with_reducible refine ct_drew ?_ | with_reducible refine ct_drewN _ ?_ | with_reducible refine ct_below hb1 ?_ | ((with_reducible refine ct_new ?_ ?_); (focus (first | with_reducible rfl | (simp only [World.size_alloc, World.size_setCell, World.size_drew, size_drewN]; done))); (focus (first | rfl | (simp; done)))) | with_reducible refine ct_set _ _ ?_ | with_reducible refine ct_alloc _ ?_ | ((with_reducible refine kc_set ?_ ?_); (focus (first | (intro hx; injection hx; omega) | (simp; done)))) | with_reducible refine kc_alloc _ ?_ | ((with_reducible refine kf_new ?_ _); (focus (first | with_reducible rfl | (simp only [World.size_alloc, World.size_setCell, World.size_drew, size_drewN]; done)))) | with_reducible refine kf_set _ _ ?_ | ((with_reducible refine kf_below hb1 ?_ ?_); (focus (simp only [World.size_alloc, World.size_setCell, World.size_drew, size_drewN]; omega))) | ((with_reducible refine kf_alloc _ ?_ ?_); (focus (first | (simp only [World.size_alloc, World.size_setCell, World.size_drew, size_drewN]; omega) | (dsimp only; omega)))) | with_reducible refine bl_alloc ?_ _ | with_reducible refine bl_drew ?_ | with_reducible refine bl_drewN ?_ _ | ((with_reducible refine bl_set ?_ ?_ _); (focus (dsimp only; omega))) | with_reducible refine bl_call ?_ hb1 | with_reducible refine gro_alloc ?_ _ | with_reducible refine gro_drew ?_ | with_reducible refine gro_drewN ?_ _ | ((with_reducible refine gro_set ?_ ?_ _); (focus (first | omega | (dsimp only; omega)))) | with_reducible refine gro_call ?_ hk1))
  have hB1 : Below w.heap.size w w1 := by (repeat (first | with_reducible exact Below.refl _ _ | with_reducible refine bl_alloc ?_ _ | with_reducible refine bl_drew ?_ | with_reducible refine bl_drewN ?_ _ | ((with_reducible refine bl_set ?_ ?_ _); (focus (dsimp only; omega))) | with_reducible refine bl_call ?_ hb1))
  refine wpIn_loop_rounds (k.toNat + 1) ?_
  have k1 := hF.k1
  refine rest_any w.heap.size n d a b c e k _ _ _ hF _ k.toNat 1 _ _ _ _ _ _ _ _ _ _ _ _ _ _ _ _ _ _ _ _ _ _ _ _ _ _ _ [] w1 (by omega) (by decide) hH ⟨by simp, by simp, by simp⟩ ?_ ?_
  · intro hn v8 v9 v10 v11 v12 v13 v14 v15 v16 v17 v18 v19 v20 v21 v22 v23 v24 v25 v26 v27 v43 v44 v45 v46 v47 v48 Ds W hb hH2 hD
    obtain ⟨t0, t1, l0, l1, l2, l3, l4, r0, r1, x0, x1, hs⟩ := hH2
    gi_wp2_with fail
    refine leaves_marks Ds _ ?_ hD.nodup ?_
    · intro D h
      have := hD.low _ h
      rw [Below.heap_setCell _ _ _ _ (by simp only; omega), Below.heap_setCell _ _ _ _ (by simp only; omega)]
      exact hD.is D h
    · intro W' hO
      have hnot : w.heap.size + 1 + 1 ∉ Ds := fun h => by have := hD.low _ h; omega
      have d0 := cell_only (v := .slice none 0 0) (a := ⟨w.heap.size + 1 + 1, 0, none⟩) hO hnot (by (repeat (first | with_reducible exact r0 | with_reducible exact r1 | with_reducible rfl | with_reducible exact Below.refl _ _ | with_reducible exact gro_refl _ | with_reducible refine kc_drew ?_ | with_reducible refine kc_drewN _ ?_ | with_reducible refine kf_drew ?_ | with_reducible refine kf_drewN _ ?_ | ((with_reducible refine kc_new ?_ ?_); (focus (first | with_reducible rfl | (simp only [World.size_alloc, World.size_setCell, World.size_drew, size_drewN]; done))); (focus (first | rfl | (simp; done)))) | ((with_reducible refine kc_set0 ?_ ?_); (focus (first | rfl | (simp; done)))) | with_reducible exact ct_of (r0) | with_reducible exact ct_of (r1) | with_reducible refine ct_drew ?_ | with_reducible refine ct_drewN _ ?_ | ((with_reducible refine ct_new ?_ ?_); (focus (first | with_reducible rfl | (simp only [World.size_alloc, World.size_setCell, World.size_drew, size_drewN]; done))); (focus (first | rfl | (simp; done)))) | with_reducible refine ct_set _ _ ?_ | with_reducible refine ct_alloc _ ?_ | ((with_reducible refine kc_set ?_ ?_); (focus (first | (intro hx; injection hx; omega) | (simp; done)))) | with_reducible refine kc_alloc _ ?_ | ((with_reducible refine kf_new ?_ _); (focus (first | with_reducible rfl | (simp only [World.size_alloc, World.size_setCell, World.size_drew, size_drewN]; done)))) | with_reducible refine kf_set _ _ ?_ | ((with_reducible refine kf_alloc _ ?_ ?_); (focus (first | (simp only [World.size_alloc, World.size_setCell, World.size_drew, size_drewN]; omega) | (dsimp only; omega)))) | with_reducible refine bl_alloc ?_ _ | with_reducible refine bl_drew ?_ | with_reducible refine bl_drewN ?_ _ | ((with_reducible refine bl_set ?_ ?_ _); (focus (dsimp only; omega))) | with_reducible refine gro_alloc ?_ _ | with_reducible refine gro_drew ?_ | with_reducible refine gro_drewN ?_ _ | ((with_reducible refine gro_set ?_ ?_ _); (focus (first | omega | (dsimp only; omega)))))))
      have d1 := cell_only (v := .slice none 0 0) (a := ⟨w.heap.size + 1 + 1, 1, none⟩) hO hnot (by (repeat (first | with_reducible exact r0 | with_reducible exact r1 | with_reducible rfl | with_reducible exact Below.refl _ _ | with_reducible exact gro_refl _ | with_reducible refine kc_drew ?_ | with_reducible refine kc_drewN _ ?_ | with_reducible refine kf_drew ?_ | with_reducible refine kf_drewN _ ?_ | ((with_reducible refine kc_new ?_ ?_); (focus (first | with_reducible rfl | (simp only [World.size_alloc, World.size_setCell, World.size_drew, size_drewN]; done))); (focus (first | rfl | (simp; done)))) | ((with_reducible refine kc_set0 ?_ ?_); (focus (first | rfl | (simp; done)))) | with_reducible exact ct_of (r0) | with_reducible exact ct_of (r1) | with_reducible refine ct_drew ?_ | with_reducible refine ct_drewN _ ?_ | ((with_reducible refine ct_new ?_ ?_); (focus (first | with_reducible rfl | (simp only [World.size_alloc, World.size_setCell, World.size_drew, size_drewN]; done))); (focus (first | rfl | (simp; done)))) | with_reducible refine ct_set _ _ ?_ | with_reducible refine ct_alloc _ ?_ | ((with_reducible refine kc_set ?_ ?_); (focus (first | (intro hx; injection hx; omega) | (simp; done)))) | with_reducible refine kc_alloc _ ?_ | ((with_reducible refine kf_new ?_ _); (focus (first | with_reducible rfl | (simp only [World.size_alloc, World.size_setCell, World.size_drew, size_drewN]; done)))) | with_reducible refine kf_set _ _ ?_ | ((with_reducible refine kf_alloc _ ?_ ?_); (focus (first | (simp only [World.size_alloc, World.size_setCell, World.size_drew, size_drewN]; omega) | (dsimp only; omega)))) | with_reducible refine bl_alloc ?_ _ | with_reducible refine bl_drew ?_ | with_reducible refine bl_drewN ?_ _ | ((with_reducible refine bl_set ?_ ?_ _); (focus (dsimp only; omega))) | with_reducible refine gro_alloc ?_ _ | with_reducible refine gro_drew ?_ | with_reducible refine gro_drewN ?_ _ | ((with_reducible refine gro_set ?_ ?_ _); (focus (first | omega | (dsimp only; omega)))))))
      have hB : Below w.heap.size w W' := below_only (((hB1.trans (hb.mono (by omega))).setCell (by simp only; omega) _).setCell (by simp only; omega) _) (fun D h => by have := hD.low _ h; omega) hO
      have hlt : w.heap.size + 1 + 1 < W'.heap.size := World.block_lt_of_cell? _ _ d0
      refine ⟨.tuple #[.agg #[.slice none 0 0, .slice none 0 0], .int .i64 6], ?_, hB, .inl ⟨hn, rfl⟩⟩
      simp [results, Try.results49, go_sem, d0, d1, hlt, Nat.ne_of_lt hlt]
  · intro hn v8 v9 v10 v11 v12 v13 v14 v15 v16 v17 v18 v19 v20 v21 v22 v23 v24 v25 v26 v27 v43 v44 v45 v46 v47 v48 s0 s1 st' Ds W hb hD hst c0 c1 o0 o1
    obtain ⟨p0, m0, rfl⟩ := own_slice o0
    obtain ⟨p1, m1, rfl⟩ := own_slice o1
    refine leaves_marks Ds W hD.is hD.nodup ?_
    intro W' hO
    have hnot : w.heap.size + 1 + 1 ∉ Ds := fun h => by have := hD.low _ h; omega
    have d0 := cell_only hO hnot c0
    have d1 := cell_only hO hnot c1
    have hB : Below w.heap.size w W' := below_only (hB1.trans (hb.mono (by omega))) (fun D h => by have := hD.low _ h; omega) hO
    have hlt : w.heap.size + 1 + 1 < W'.heap.size := World.block_lt_of_cell? _ _ d0
    refine ⟨.tuple #[.agg #[.slice p0 st' m0, .slice p1 st' m1], .int .i64 0], ?_, hB, .inr ⟨st', p0, m0, p1, m1, hst, by omega, rfl, ?_, ?_⟩⟩
    · simp [results, Try.results49, go_sem, d0, d1, hlt, Nat.ne_of_lt hlt]
    · exact Go.Joins.ownsRow_le (own_only hD.is hO o0) (by omega)
    · exact Go.Joins.ownsRow_le (own_only hD.is hO o1) (by omega)

/-- Of a bad call: its error. -/
theorem exact_bad (n d a b c e k : Int) (w : World) (hn : -9223372036854775808 ≤ n) (hn' : n ≤ 9223372036854775807) (hd : -9223372036854775808 ≤ d) (hd' : d ≤ 9223372036854775807) (hc : csF n d a b c e k ≠ 0) :
    Calls Try.prog 49 #[.agg #[.int .i64 n, .int .i64 d], .agg #[.int .i64 a, .int .i64 b, .int .i64 c, .int .i64 e, .int .i64 k]] w fun v w' => v = .returned (.tuple #[.agg #[.slice none 0 0, .slice none 0 0], .int .i64 (csF n d a b c e k)]) ∧ Below w.heap.size w w' := by
  have hC := fun W => checkSearch_any n d a b c e k W hn hn' hd hd'
  generalize csF n d a b c e k = q at *
  have h1 : (q != 0) = true := by simpa using hc
  clear hc
  refine (callsIn_wide (n := 6)).1 ?_
  refine callsIn_of_wp_marks Try.func49 rfl trivial ?_ rfl
  simp only [Try.ntmps49, List.size_toArray, List.length_cons, List.length_nil, Nat.reduceAdd, Nat.reduceSub, Array.replicate_succ, Array.replicate_zero, List.push_toArray, List.append_toArray, List.nil_append, List.cons_append]
  gi_wp2_with (refine ⟨trivial, ?_⟩; gi_at_call 81; refine (callsIn_wide.2 (hC _)).mono ?_; rintro x w1 ⟨rfl, hk1⟩; have hb1 := hk1.below; obtain ⟨hc1, hf1⟩ := bcell hb1; simp only [World.size_alloc] at hc1 hf1)
  have r0 : w1.cell? ⟨w.heap.size + 1 + 1, 0, none⟩ = some (.slice none 0 0) := by (repeat (first | with_reducible refine kc_drew ?_ | with_reducible refine kc_drewN _ ?_ | with_reducible refine kc_below hb1 ?_ | ((with_reducible refine kc_new ?_ ?_); (focus (first | with_reducible rfl | (simp only [World.size_alloc, World.size_setCell, World.size_drew, size_drewN]; done))); (focus (first | rfl | (simp; done)))) | ((with_reducible refine kc_set0 ?_ ?_); (focus (first | rfl | (simp; done)))) | with_reducible refine ct_drew ?_ | with_reducible refine ct_drewN _ ?_ | with_reducible refine ct_below hb1 ?_ | ((with_reducible refine ct_new ?_ ?_); (focus (first | with_reducible rfl | (simp only [World.size_alloc, World.size_setCell, World.size_drew, size_drewN]; done))); (focus (first | rfl | (simp; done)))) | with_reducible refine ct_set _ _ ?_ | with_reducible refine ct_alloc _ ?_ | ((with_reducible refine kc_set ?_ ?_); (focus (first | (intro hx; injection hx; omega) | (simp; done)))) | with_reducible refine kc_alloc _ ?_))
  have r1 : w1.cell? ⟨w.heap.size + 1 + 1, 1, none⟩ = some (.slice none 0 0) := by (repeat (first | with_reducible refine kc_drew ?_ | with_reducible refine kc_drewN _ ?_ | with_reducible refine kc_below hb1 ?_ | ((with_reducible refine kc_new ?_ ?_); (focus (first | with_reducible rfl | (simp only [World.size_alloc, World.size_setCell, World.size_drew, size_drewN]; done))); (focus (first | rfl | (simp; done)))) | ((with_reducible refine kc_set0 ?_ ?_); (focus (first | rfl | (simp; done)))) | with_reducible refine ct_drew ?_ | with_reducible refine ct_drewN _ ?_ | with_reducible refine ct_below hb1 ?_ | ((with_reducible refine ct_new ?_ ?_); (focus (first | with_reducible rfl | (simp only [World.size_alloc, World.size_setCell, World.size_drew, size_drewN]; done))); (focus (first | rfl | (simp; done)))) | with_reducible refine ct_set _ _ ?_ | with_reducible refine ct_alloc _ ?_ | ((with_reducible refine kc_set ?_ ?_); (focus (first | (intro hx; injection hx; omega) | (simp; done)))) | with_reducible refine kc_alloc _ ?_))
  have hB : Below w.heap.size w w1 := by (repeat (first | with_reducible exact Below.refl _ _ | with_reducible refine bl_alloc ?_ _ | with_reducible refine bl_drew ?_ | with_reducible refine bl_drewN ?_ _ | ((with_reducible refine bl_set ?_ ?_ _); (focus (dsimp only; omega))) | with_reducible refine bl_call ?_ hb1))
  have hz1 := hb1.size
  simp only [World.size_alloc] at hz1
  have hlt : w.heap.size + 1 + 1 < w1.heap.size := by omega
  refine ⟨.tuple #[.agg #[.slice none 0 0, .slice none 0 0], .int .i64 q], ?_, rfl, (hB.setCell (by simp only; omega) _).setCell (by simp only; omega) _⟩
  simp [results, Try.results49, go_sem, r0, r1, hlt, Nat.ne_of_lt hlt]
end Go.Proofs.Ytmigddempeecoaa
