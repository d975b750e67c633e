/- Exact: what it returns. -/
import Derived.Test.YtmigddempeecoaaRound
import Derived.RangeFuncLeaves
import Derived.Laws.ResultCell
namespace Go.Proofs.Ytmigddempeecoaa
set_option linter.unusedVariables false
set_option linter.unusedSimpArgs false
open Go.RowKit Go.Shelf Go.Lib Go.Sort
attribute [local go_sem] Oper.semAt_some

def mk (D : Nat) : Deferred := { target := .collected D, args := #[] }

/-- What Exact picks from a number of stages on. -/
def exS (tn td wl wh pl ph : Int) : Nat → Nat → Tr
  | 0, _ => zeroTr
  | m + 1, st => if (bestS tn td wl wh pl ph st).n < 1 then exS tn td wl wh pl ph m (st + 1) else bestS tn td wl wh pl ph st

/-- The marks among the deferred calls. -/
structure Defs (B : Nat) (Ds : List Nat) (W : World) : Prop where
  low : ∀ D ∈ Ds, B < D
  is : ∀ D ∈ Ds, W.heap[D]? = some (.deferred (some []))
  nodup : Ds.Nodup
theorem Defs.cons {B D : Nat} {Ds : List Nat} {W W1 : World} (h : Defs B Ds W) (hs : B < W.heap.size) (hb : ∀ i, i < W.heap.size → i ≠ B → W1.heap[i]? = W.heap[i]?) (hD : W.heap.size ≤ D) (hd : W1.heap[D]? = some (.deferred (some []))) : Defs B (D :: Ds) W1 := by
  have hlt : ∀ D' ∈ Ds, D' < W.heap.size := fun D' h' => (Array.getElem?_eq_some_iff.1 (h.is D' h')).1
  refine ⟨?_, ?_, ?_⟩
  · intro D' h'
    rcases List.mem_cons.1 h' with rfl | h'
    · omega
    · exact h.low _ h'
  · intro D' h'
    rcases List.mem_cons.1 h' with rfl | h'
    · exact hd
    · have := h.low _ h'
      exact (hb D' (hlt _ h') (by omega)).trans (h.is _ h')
  · exact List.nodup_cons.2 ⟨fun h' => by have := hlt _ h'; omega, h.nodup⟩

/-- Worlds that differ at marks alone. -/
structure OnlyAt (Ds : List Nat) (W W' : World) : Prop where
  os : W'.os = W.os
  tape : W'.tape = W.tape
  output : W'.output = W.output
  size : W'.heap.size = W.heap.size
  block : ∀ k, k ∉ Ds → W'.heap[k]? = W.heap[k]?
theorem leaves_marks {fn : Func} {tmps : Array Value} {R : Ending → World → Prop} : ∀ (Ds : List Nat) (W : World), (∀ D ∈ Ds, W.heap[D]? = some (.deferred (some []))) → Ds.Nodup →
    (∀ W', OnlyAt Ds W W' → ∃ v, (results fn tmps).run Try.prog W' = .ok v W' ∧ R (.returned v) W') → LeavesInM Fence.wide 6 Try.prog fn tmps R (Ds.map mk) .returning W := by
  intro Ds
  induction Ds with
  | nil => exact fun W _ _ h => h W ⟨rfl, rfl, rfl, rfl, fun _ _ => rfl⟩
  | cons D Ds ih =>
    intro W hd hn h
    obtain ⟨hD, hn⟩ := List.nodup_cons.1 hn
    refine ⟨by simp, .inl ⟨D, _, rfl, run_takeDeferred (hd D List.mem_cons_self), ?_⟩⟩
    refine ih _ ?_ hn ?_
    · intro D' h'
      rw [World.putObj_heap_other (by rintro rfl; exact hD h')]
      exact hd D' (List.mem_cons_of_mem _ h')
    · intro W' hW
      refine h W' ⟨hW.os, hW.tape, hW.output, ?_, ?_⟩
      · rw [hW.size]; simp [World.putObj]
      · intro k hk
        simp only [List.mem_cons, not_or] at hk
        rw [hW.block k hk.2, World.putObj_heap_other (by omega)]

set_option maxRecDepth 100000 in
theorem rest_any (B : Nat) (tn td wl wh pl ph k : Int) (v0 v1 v6 : Value) (hF : Fine tn td wl wh pl ph k) (Q : Exit → Act → World → Prop) : ∀ (m st : Nat) (v5 v8 v9 v10 v11 v12 v13 v14 v15 v16 v17 v18 v19 v20 v21 v22 v23 v24 v25 v26 v27 v43 v44 v45 v46 v47 v48 : Value) (Ds : List Nat) (w : World),
    (st : Int) + m = k + 1 → 1 ≤ st → Head B tn td wl wh pl ph k w → Defs (B + 1 + 1) Ds w →
    ((exS tn td wl wh pl ph m st).n < 1 → ∀ (v8 v9 v10 v11 v12 v13 v14 v15 v16 v17 v18 v19 v20 v21 v22 v23 v24 v25 v26 v27 v43 v44 v45 v46 v47 v48 : Value) (Ds : List Nat) (W : World), Below w.heap.size w W → Head B tn td wl wh pl ph k W → Defs (B + 1 + 1) Ds W →
      Q (.exit 0) ⟨#[v0, v1, .pointer (some ⟨B, 0, none⟩), .pointer (some ⟨B + 1, 0, none⟩), .pointer (some ⟨B + 1 + 1, 0, none⟩), v5, v6, .int .i64 (k + 1), v8, v9, v10, v11, v12, v13, v14, v15, v16, v17, v18, v19, v20, v21, v22, v23, v24, v25, v26, v27, undef, undef, undef, undef, undef, undef, undef, undef, undef, undef, undef, undef, undef, undef, undef, v43, v44, v45, v46, v47, v48], Ds.map mk⟩ W) →
    (1 ≤ (exS tn td wl wh pl ph m st).n → ∀ (v8 v9 v10 v11 v12 v13 v14 v15 v16 v17 v18 v19 v20 v21 v22 v23 v24 v25 v26 v27 v43 v44 v45 v46 v47 v48 s0 s1 : Value) (st' : Nat) (Ds : List Nat) (W : World), Below (B + 1 + 1) w W → Defs (B + 1 + 1) Ds W → (exS tn td wl wh pl ph m st).n = st' →
      W.cell? ⟨B + 1 + 1, 0, none⟩ = some s0 → W.cell? ⟨B + 1 + 1, 1, none⟩ = some s1 →
      W.ownsRow w.heap.size 3 1 s0 st' ((exS tn td wl wh pl ph m st).w.row st') → W.ownsRow w.heap.size 3 1 s1 st' ((exS tn td wl wh pl ph m st).p.row st') →
      Q .ret ⟨#[v0, v1, .pointer (some ⟨B, 0, none⟩), .pointer (some ⟨B + 1, 0, none⟩), .pointer (some ⟨B + 1 + 1, 0, none⟩), .int .i64 0, v6, .int .i64 (st' : Int), v8, v9, v10, v11, v12, v13, v14, v15, v16, v17, v18, v19, v20, v21, v22, v23, v24, v25, v26, v27, undef, undef, undef, undef, undef, undef, undef, undef, undef, undef, undef, undef, undef, undef, undef, v43, v44, v45, v46, v47, v48], Ds.map mk⟩ W) →
    Code.roundsIn Fence.wide 6 Try.prog loopE Q (m + 1) ⟨#[v0, v1, .pointer (some ⟨B, 0, none⟩), .pointer (some ⟨B + 1, 0, none⟩), .pointer (some ⟨B + 1 + 1, 0, none⟩), v5, v6, .int .i64 (st : Int), v8, v9, v10, v11, v12, v13, v14, v15, v16, v17, v18, v19, v20, v21, v22, v23, v24, v25, v26, v27, undef, undef, undef, undef, undef, undef, undef, undef, undef, undef, undef, undef, undef, undef, undef, v43, v44, v45, v46, v47, v48], Ds.map mk⟩ w := by
  intro m
  induction m with
  | zero =>
    intro st v5 v8 v9 v10 v11 v12 v13 v14 v15 v16 v17 v18 v19 v20 v21 v22 v23 v24 v25 v26 v27 v43 v44 v45 v46 v47 v48 Ds w hk hst hH hD hend _
    rw [roundsIn_succ]
    have hz : (exS tn td wl wh pl ph 0 st).n < 1 := by unfold exS zeroTr; decide
    have ek : (st : Int) = k + 1 := by omega
    rw [ek]
    clear ek
    have k1 := hF.k1
    have k3 := hF.k3
    have g1 : B + 1 < w.heap.size := by have := hH.size; omega
    have l4 := hH.l4
    have HE := Lib.hid (hend hz)
    clear hend
    conv => arg 4; whnf
    gi_wp2_with fail
    exact HE.out _ _ _ _ _ _ _ _ _ _ _ _ _ _ _ _ _ _ _ _ _ _ _ _ _ _ Ds w (Below.refl _ _) hH hD
  | succ m ih =>
    intro st v5 v8 v9 v10 v11 v12 v13 v14 v15 v16 v17 v18 v19 v20 v21 v22 v23 v24 v25 v26 v27 v43 v44 v45 v46 v47 v48 Ds w hk hst hH hD hend hret
    rw [roundsIn_succ]
    refine round_any v0 v1 v5 v6 v8 v9 v10 v11 v12 v13 v14 v15 v16 v17 v18 v19 v20 v21 v22 v23 v24 v25 v26 v27 v43 v44 v45 v46 v47 v48 (Ds.map mk) B tn td wl wh pl ph k st w _ hF hH hst (by omega) ?_ ?_
    · intro hm v8 v9 v10 v11 v12 v13 v14 v15 v16 v17 v18 v19 v20 v21 v22 v23 v24 v25 v26 v27 v43 v44 v45 v46 v47 v48 D W' hb hDl hd
      have hH' := hH.below hb
      have hE : exS tn td wl wh pl ph (m + 1) st = exS tn td wl wh pl ph m (st + 1) := by
        show (if _ then _ else _) = _
        rw [if_pos hm]
      rw [hE] at hend hret
      exact ih (st + 1) v5 v8 v9 v10 v11 v12 v13 v14 v15 v16 v17 v18 v19 v20 v21 v22 v23 v24 v25 v26 v27 v43 v44 v45 v46 v47 v48 (D :: Ds) W' (by omega) (by omega) hH' (hD.cons hH.size (fun i hi _ => hb.block i hi) hDl hd)
        (fun h v8 v9 v10 v11 v12 v13 v14 v15 v16 v17 v18 v19 v20 v21 v22 v23 v24 v25 v26 v27 v43 v44 v45 v46 v47 v48 Ds' W2 hb2 hH2 hD2 => hend h v8 v9 v10 v11 v12 v13 v14 v15 v16 v17 v18 v19 v20 v21 v22 v23 v24 v25 v26 v27 v43 v44 v45 v46 v47 v48 Ds' W2 (hb.trans (hb2.mono hb.size)) hH2 hD2)
        (fun h v8 v9 v10 v11 v12 v13 v14 v15 v16 v17 v18 v19 v20 v21 v22 v23 v24 v25 v26 v27 v43 v44 v45 v46 v47 v48 s0 s1 st' Ds' W2 hb2 hD2 hn c0 c1 o0 o1 => hret h v8 v9 v10 v11 v12 v13 v14 v15 v16 v17 v18 v19 v20 v21 v22 v23 v24 v25 v26 v27 v43 v44 v45 v46 v47 v48 s0 s1 st' Ds' W2 ((hb.mono (Nat.le_of_lt hH.size)).trans hb2) hD2 hn c0 c1 (Go.Joins.ownsRow_le o0 hb.size) (Go.Joins.ownsRow_le o1 hb.size))
    · intro hm v8 v9 v10 v11 v12 v13 v14 v15 v16 v17 v18 v19 v20 v21 v22 v23 v24 v25 v26 v27 v43 v44 v45 v46 v47 v48 s0 s1 D W' hb hsame hDl hd c0 c1 o0 o1
      have hE : exS tn td wl wh pl ph (m + 1) st = bestS tn td wl wh pl ph st := by
        show (if _ then _ else _) = _
        rw [if_neg (by omega)]
      rw [hE] at hend hret
      exact hret hm v8 v9 v10 v11 v12 v13 v14 v15 v16 v17 v18 v19 v20 v21 v22 v23 v24 v25 v26 v27 v43 v44 v45 v46 v47 v48 s0 s1 st (D :: Ds) W' hb (hD.cons hH.size hsame hDl hd) (bestS_n hst hm) c0 c1 o0 o1
end Go.Proofs.Ytmigddempeecoaa
