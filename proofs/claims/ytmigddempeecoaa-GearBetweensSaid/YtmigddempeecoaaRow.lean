/- Rows of sides in memory: what stands behind calls, stores and clear; the plain side of CompactFunc. -/
import Derived.Test.YtmigddempeecoaaSide
import Derived.Lib.SliceRun
import Derived.Lib.SlBuf
namespace Go.Proofs.Ytmigddempeecoaa
set_option linter.unusedVariables false
set_option linter.unusedSimpArgs false
open Go.RowKit Go.Shelf Go.Lib Go.Sort

theorem enc_len (x : Side) : x.enc.length = 5 := rfl
theorem enc_one (x : Side) : ∀ v ∈ x.enc, v.oneCell' = true := fun v hv => by
  simp [Side.enc] at hv
  rcases hv with rfl | rfl | rfl | rfl | rfl <;> rfl

section
variable {W W1 : World} {g : Nat} {d : Array Side}
theorem holdsK_mk (h : ∀ i, i < d.size → ∀ c, c < 5 → W.cell? ⟨g, i * 5 + c, none⟩ = some (d[i]!.enc)[c]! ∧ W.frozen? ⟨g, i * 5 + c, none⟩ = false) : HoldsK Side.enc 5 W g 0 d := by
  intro j hj
  rw [size_flatK] at hj
  rw [get_flatK _ _ _ _ hj]
  have h1 : j / 5 < d.size := by omega
  have h2 := h (j / 5) h1 (j % 5) (by omega)
  rw [show j / 5 * 5 + j % 5 = j by omega] at h2
  rw [Nat.zero_add]
  exact h2
theorem holdsK_at (h : HoldsK Side.enc 5 W g 0 d) {i : Nat} (hi : i < d.size) {c : Nat} (hc : c < 5) : W.cell? ⟨g, i * 5 + c, none⟩ = some (d[i]!.enc)[c]! ∧ W.frozen? ⟨g, i * 5 + c, none⟩ = false := by
  have := h.cell hi hc
  rwa [Nat.zero_add] at this
theorem cells5 (h : HoldsK Side.enc 5 W g 0 d) {i : Nat} (hi : i < d.size) :
    (W.cell? ⟨g, i * 5, none⟩ = some (.int .i64 d[i]!.a) ∧ W.cell? ⟨g, i * 5 + 1, none⟩ = some (.int .i64 d[i]!.b) ∧ W.cell? ⟨g, i * 5 + 2, none⟩ = some (.int .i64 d[i]!.c) ∧ W.cell? ⟨g, i * 5 + 3, none⟩ = some (.int .i64 d[i]!.p) ∧ W.cell? ⟨g, i * 5 + 4, none⟩ = some (.int .i64 d[i]!.s)) ∧
    (W.frozen? ⟨g, i * 5, none⟩ = false ∧ W.frozen? ⟨g, i * 5 + 1, none⟩ = false ∧ W.frozen? ⟨g, i * 5 + 2, none⟩ = false ∧ W.frozen? ⟨g, i * 5 + 3, none⟩ = false ∧ W.frozen? ⟨g, i * 5 + 4, none⟩ = false) := by
  have h0 := holdsK_at h hi (show 0 < 5 by omega)
  have h1 := holdsK_at h hi (show 1 < 5 by omega)
  have h2 := holdsK_at h hi (show 2 < 5 by omega)
  have h3 := holdsK_at h hi (show 3 < 5 by omega)
  have h4 := holdsK_at h hi (show 4 < 5 by omega)
  exact ⟨⟨h0.1, h1.1, h2.1, h3.1, h4.1⟩, h0.2, h1.2, h2.2, h3.2, h4.2⟩
theorem holdsK_below (hb : Below W.heap.size W W1) (hg : g < W.heap.size) (h : HoldsK Side.enc 5 W g 0 d) : HoldsK Side.enc 5 W1 g 0 d := fun j hj =>
  ⟨(hb.cell (p := ⟨g, 0 + j, none⟩) hg).trans (h j hj).1, (hb.frozen (p := ⟨g, 0 + j, none⟩) hg).trans (h j hj).2⟩
theorem holdsK_drew (h : HoldsK Side.enc 5 W g 0 d) : HoldsK Side.enc 5 W.drew g 0 d := h

/-- The store of a whole element. -/
def put5 (W : World) (g i : Nat) (x : Side) : World := ((((W.setCell ⟨g, i * 5, none⟩ (.int .i64 x.a)).setCell ⟨g, i * 5 + 1, none⟩ (.int .i64 x.b)).setCell ⟨g, i * 5 + 2, none⟩ (.int .i64 x.c)).setCell ⟨g, i * 5 + 3, none⟩ (.int .i64 x.p)).setCell ⟨g, i * 5 + 4, none⟩ (.int .i64 x.s)
theorem put5_eq (W : World) (g i : Nat) (x : Side) : put5 W g i x = W.setCells g (i * 5) x.enc := by
  simp only [put5, Side.enc, World.setCells]
theorem get_set (d : Array Side) (i j : Nat) (x : Side) (hi : i < d.size) : (d.setIfInBounds i x)[j]! = if j = i then x else d[j]! := by
  by_cases h : j = i
  · subst h; rw [getElem!_set_same d j x hi, if_pos rfl]
  · rw [getElem!_set_other d i j x h, if_neg h]
theorem holdsK_put5 (h : HoldsK Side.enc 5 W g 0 d) {i : Nat} (hi : i < d.size) (x : Side) : HoldsK Side.enc 5 (put5 W g i x) g 0 (d.setIfInBounds i x) := by
  rw [put5_eq]
  refine holdsK_mk fun j hj c hc => ?_
  have hj' : j < d.size := by simpa using hj
  refine ⟨?_, by rw [World.frozen?_setCells]; exact (holdsK_at h hj' hc).2⟩
  rw [get_set d i j x hi]
  by_cases e : j = i
  · subst e
    rw [if_pos rfl]
    have hl : c < x.enc.length := by rw [enc_len]; exact hc
    have := World.cell?_setCells_in g x.enc (j * 5) W (fun c hc => by rw [enc_len] at hc; rw [(holdsK_at h hi hc).1]; rfl) c hl
    exact this.trans (congrArg some (getElem!_pos x.enc c hl).symm)
  · rw [if_neg e, World.cell?_setCells_out g x.enc (i * 5) W _ (fun _ _ => by simp only [enc_len]; omega)]
    exact (holdsK_at h hj' hc).1
theorem put5_below {a : World} {B : Nat} (hB : B ≤ g) (h : Below B a W) (i : Nat) (x : Side) : Below B a (put5 W g i x) := by
  rw [put5_eq]
  exact below_setCells g hB _ _ h
theorem put5_size (i : Nat) (x : Side) : (put5 W g i x).heap.size = W.heap.size := by simp [put5]

/-- What stands ahead of a run of stores. -/
theorem holdsK_pre (h : HoldsK Side.enc 5 W g 0 d) {m : Nat} (hm : m ≤ d.size) (vs : List Value) : HoldsK Side.enc 5 (W.setCells g (m * 5) vs) g 0 (d.extract 0 m) := by
  refine holdsK_mk fun j hj c hc => ?_
  have hj' : j < m := by simp at hj; omega
  refine ⟨?_, by rw [World.frozen?_setCells]; exact (holdsK_at h (by omega) hc).2⟩
  rw [World.cell?_setCells_out g vs (m * 5) W _ (fun _ _ => by simp only; omega)]
  have : (d.extract 0 m)[j]! = d[j]! := by
    rw [getElem!_pos _ j hj, getElem!_pos d j (by omega)]
    simp
  rw [this]
  exact (holdsK_at h (by omega) hc).1
theorem setCells_size (o : Nat) : ∀ (vs : List Value) (o : Nat) (W : World), (W.setCells g o vs).heap.size = W.heap.size
  | [], _, _ => rfl
  | v :: r, o, W => by rw [World.setCells, setCells_size o r]; simp
end

/-- clear of a part of a row of sides. -/
theorem run_clear5 {P : Program} (W : World) (t e ty : TypeId) (ht : P.underlying t = some (.slice e)) (hv : ∀ w, (zeroValue e).run P w = .ok (.agg #[.int .i64 0, .int .i64 0, .int .i64 0, .int .i64 0, .int .i64 0]) w) (g o n c : Nat) (hn : 0 < n)
    (hc : ∀ j, j < n * 5 → (W.cell? ⟨g, o + j, none⟩).isSome = true) (hf : ∀ j, j < n * 5 → W.frozen? ⟨g, o + j, none⟩ = false) :
    ∃ vs, (Builtin.clear_ #[t] ty #[.slice (some ⟨g, o, none⟩) n c]).run P W = .ok (.tuple #[]) (W.setCells g o vs) := by
  refine ⟨(Builtin.zeroCells (Value.agg #[.int .i64 0, .int .i64 0, .int .i64 0, .int .i64 0, .int .i64 0]).cells n).toList, ?_⟩
  have hz : (Value.agg #[.int .i64 0, .int .i64 0, .int .i64 0, .int .i64 0, .int .i64 0]).cells = #[.int .i64 0, .int .i64 0, .int .i64 0, .int .i64 0, .int .i64 0] := rfl
  have hl : (Builtin.zeroCells (Value.agg #[.int .i64 0, .int .i64 0, .int .i64 0, .int .i64 0, .int .i64 0]).cells n).toList.length = n * 5 := by
    rw [hz]; simp [Builtin.zeroCells]
  have hst := run_storeCells_cells (P := P) g o (Builtin.zeroCells (Value.agg #[.int .i64 0, .int .i64 0, .int .i64 0, .int .i64 0, .int .i64 0]).cells n).toList 0 W (by rw [hl]; simpa using hc) (by rw [hl]; simpa using hf) (by
    intro v hv'
    rw [hz] at hv'
    simp [Builtin.zeroCells] at hv'
    obtain ⟨i, _, rfl⟩ := hv'
    have : i % 5 = 0 ∨ i % 5 = 1 ∨ i % 5 = 2 ∨ i % 5 = 3 ∨ i % 5 = 4 := by omega
    rcases this with e | e | e | e | e <;> simp [e] <;> rfl)
  simp only [Nat.add_zero] at hst
  obtain ⟨m, rfl⟩ : ∃ m, n = m + 1 := ⟨n - 1, by omega⟩
  simp [Builtin.clear_, run_underlying ht, hv, hst]

/-! ### The plain side of CompactFunc -/
/-- Element j is kept. -/
def keepAt (d : Array Side) (j : Nat) : Bool := j == 0 || !(d[j]!.p == d[j - 1]!.p)
/-- What is kept of the first n. -/
def cmpL (d : Array Side) (n : Nat) : List Side := ((List.range n).filter (keepAt d)).map (d[·]!)
theorem cmpL_snoc (d : Array Side) (n : Nat) : cmpL d (n + 1) = cmpL d n ++ if keepAt d n = true then [d[n]!] else [] := by
  unfold cmpL
  rw [List.range_succ, List.filter_append, List.map_append]
  by_cases h : keepAt d n = true <;> simp [List.filter_cons, h]
theorem cmpL_all (d : Array Side) (n : Nat) (h : ∀ j, j < n → keepAt d j = true) : cmpL d n = (List.range n).map (d[·]!) := by
  unfold cmpL
  rw [List.filter_eq_self.2 (fun j hj => h j (by simpa using hj))]

/-- The second loop of CompactFunc: n elements are read, kk are kept. -/
structure CInv (d : Array Side) (n kk : Nat) (dk : Array Side) : Prop where
  size : dk.size = d.size
  len : kk = (cmpL d n).length
  low : ∀ j, j < kk → dk[j]! = (cmpL d n)[j]!
  high : ∀ j, n - 1 ≤ j → dk[j]! = d[j]!
  lt : kk < n
theorem CInv.start {d : Array Side} {k : Nat} (h : ∀ j, j < k → keepAt d j = true) (hk : keepAt d k = false) : CInv d (k + 1) k d := by
  have e : cmpL d (k + 1) = (List.range k).map (d[·]!) := by rw [cmpL_snoc, hk, cmpL_all d k h]; simp
  exact ⟨rfl, by rw [e]; simp, fun j hj => by rw [e, getElem!_pos ((List.range k).map (d[·]!)) j (by simpa using hj)]; simp, fun _ _ => rfl, by omega⟩
theorem CInv.skip {d : Array Side} {n kk : Nat} {dk : Array Side} (h : CInv d n kk dk) (hn : keepAt d n = false) : CInv d (n + 1) kk dk := by
  have e : cmpL d (n + 1) = cmpL d n := by rw [cmpL_snoc, hn]; simp
  exact ⟨h.size, by rw [e]; exact h.len, fun j hj => by rw [e]; exact h.low j hj, fun j hj => h.high j (by omega), by have := h.lt; omega⟩
theorem CInv.keep {d : Array Side} {n kk : Nat} {dk : Array Side} (h : CInv d n kk dk) (hlt : n < d.size) (hn : keepAt d n = true) : CInv d (n + 1) (kk + 1) (dk.setIfInBounds kk d[n]!) := by
  have e : cmpL d (n + 1) = cmpL d n ++ [d[n]!] := by rw [cmpL_snoc, hn]; simp
  have hk := h.lt
  have hs := h.size
  refine ⟨by simp [hs], by rw [e, List.length_append, ← h.len]; rfl, fun j hj => ?_, fun j hj => ?_, by omega⟩
  · rw [get_set dk kk j _ (by omega), e]
    by_cases ej : j = kk
    · subst ej
      rw [if_pos rfl, getElem!_pos _ j (by rw [List.length_append, ← h.len]; simp), List.getElem_append_right (by rw [← h.len]; exact Nat.le_refl _)]
      simp
    · rw [if_neg ej, h.low j (by omega), getElem!_pos _ j (by rw [← h.len]; omega), getElem!_pos _ j (by rw [List.length_append, ← h.len]; simp; omega), List.getElem_append_left]
  · rw [get_set dk kk j _ (by omega), if_neg (by omega)]
    exact h.high j (by omega)
theorem CInv.done {d : Array Side} {kk : Nat} {dk : Array Side} (h : CInv d d.size kk dk) : dk.extract 0 kk = (cmpL d d.size).toArray := by
  have hk := h.lt
  have hs := h.size
  apply Array.ext
  · simp [h.len.symm]; omega
  · intro i h1 h2
    have hi : i < kk := by simp at h1; omega
    have := h.low i hi
    rw [getElem!_pos dk i (by omega), getElem!_pos _ i (by rw [← h.len]; exact hi)] at this
    simpa using this
theorem cmpL_none {d : Array Side} (h : ∀ j, j < d.size → keepAt d j = true) : (cmpL d d.size).toArray = d := by
  rw [cmpL_all d _ h]
  apply Array.ext
  · simp
  · intro i h1 h2
    simp
    exact getElem!_pos d i h2
end Go.Proofs.Ytmigddempeecoaa
