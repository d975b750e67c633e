/- Texts that gearBest_holds reaches: TrP, Ratio, CmpAt, Better. -/
import Derived.Test.YtoenimkgagndnaaBc
import Derived.Test.YtoenimkgagndnaaBb
namespace Go.Proofs.Ytoenimkgagndnaa
set_option linter.unusedVariables false
set_option linter.unusedSimpArgs false
open Go.RowKit Go.Shelf Go.Lib Go.Sort

theorem srt_mem {l : List Side} {x : Side} : x ∈ srt l ↔ x ∈ l := List.mem_mergeSort

theorem srt_pair (l : List Side) : (srt l).Pairwise fun x y => x.p ≤ y.p := by
  have h := List.pairwise_mergeSort (le := fun x y => !(ltOf cmpS) y x) (fun a b c h1 h2 => by
      simp only [Bool.not_eq_true'] at *
      exact swoS.ntrans c b a h2 h1) (fun a b => by
      simp only [Bool.or_eq_true, Bool.not_eq_true']
      cases e : ltOf cmpS b a with
      | false => exact .inl rfl
      | true =>
        refine .inr ?_
        cases e2 : ltOf cmpS a b with
        | false => rfl
        | true => exact absurd (swoS.trans a b a e2 e) (by rw [swoS.irrefl]; simp)) l
  refine h.imp fun {x y} hxy => ?_
  simp only [Bool.not_eq_true'] at hxy
  unfold ltOf at hxy
  rw [decide_eq_false_iff_not, cmpS_lt] at hxy
  unfold Side.lt at hxy
  omega

theorem cmpL_sub (d : Array Side) : (cmpL d d.size).Sublist d.toList := by
  have h := (List.filter_sublist (l := List.range d.size) (p := keepAt d)).map (d[·]!)
  have e : (List.range d.size).map (d[·]!) = d.toList := by
    apply List.ext_getElem
    · simp
    · intro i h1 h2
      simp
      exact getElem!_pos d i (by simpa using h2)
  rw [e] at h
  exact h

theorem sidesL_sub (low high : Int) (st : Nat) (r : Bool) : (sidesL low high st r).Sublist (srt (gen low high r st)) := by
  have := cmpL_sub (srt (gen low high r st)).toArray
  simp only [List.size_toArray, srt_len] at this
  exact this

theorem sidesL_mem {low high : Int} {st : Nat} {r : Bool} {x : Side} (h : x ∈ sidesL low high st r) : x ∈ gen low high r st := srt_mem.1 ((sidesL_sub low high st r).subset h)
theorem sidesL_pair (low high : Int) (st : Nat) (r : Bool) : (sidesL low high st r).Pairwise fun x y => x.p ≤ y.p := (srt_pair _).sublist (sidesL_sub low high st r)
theorem sidesL_len {low high : Int} {st : Nat} {r : Bool} (h1 : 1 ≤ low) (h2 : low ≤ high) (h3 : high ≤ 200) (h4 : high - low < 64) (hst : st ≤ 3) : (sidesL low high st r).length ≤ 262144 := by
  have a := (sidesL_sub low high st r).length_le
  rw [srt_len] at a
  have b := (gen_len (r := r) h2 h1 h3 h4 st hst).1
  have : 64 ^ st ≤ 64 ^ 3 := Nat.pow_le_pow_right (by omega) hst
  omega
theorem sidesL_p {low high : Int} {st : Nat} {r : Bool} (h1 : 1 ≤ low) (h2 : low ≤ high) (h3 : high ≤ 200) (hst : st ≤ 3) {x : Side} (hx : x ∈ sidesL low high st r) : 1 ≤ x.p ∧ x.p ≤ 8000000 := by
  obtain ⟨_, g1, g2, _, _⟩ := gen_good h2 h1 h3 st hst x (sidesL_mem hx)
  rcases (show st = 0 ∨ st = 1 ∨ st = 2 ∨ st = 3 by omega) with rfl | rfl | rfl | rfl <;> simp at g2 <;> omega
theorem sidesL_mono {low high : Int} {st : Nat} {r : Bool} {a b : Nat} (hab : a ≤ b) (hb : b < (sidesL low high st r).length) : ((sidesL low high st r)[a]'(by omega)).p ≤ ((sidesL low high st r)[b]).p := by
  rcases Nat.lt_or_ge a b with h | h
  · exact List.pairwise_iff_getElem.1 (sidesL_pair low high st r) a b (by omega) hb h
  · obtain rfl : a = b := by omega
    exact Int.le_refl _

/-- A train of the search. -/
structure Tr where
  n : Int
  w : Side
  p : Side
deriving DecidableEq, Inhabited
def Tr.cells (t : Tr) : Array Value := #[.int .i64 t.n, .int .i64 t.w.a, .int .i64 t.w.b, .int .i64 t.w.c, .int .i64 t.w.p, .int .i64 t.w.s, .int .i64 t.p.a, .int .i64 t.p.b, .int .i64 t.p.c, .int .i64 t.p.p, .int .i64 t.p.s]
def Tr.val (t : Tr) : Value := .agg t.cells

/-- How many wheels' sides are not above the target. -/
def aboveN (ws : List Side) (p : Side) (tn td : Int) : Nat := (List.range ws.length).countP fun i => !aboveB ws.toArray p.p tn td i
def winLo (ws : List Side) (p : Side) (tn td : Int) : Nat := aboveN ws p tn td - 1
def winHi (ws : List Side) (p : Side) (tn td : Int) : Nat := min (aboveN ws p tn td + 1) ws.length
/-- The trains of one side of pinions: the first k of them. -/
def winTo (st : Nat) (ws : List Side) (p : Side) (tn td : Int) (k : Nat) : List Tr := (List.range k).map fun (i : Nat) => ⟨(st : Int), ws.toArray[winLo ws p tn td + i]!, p⟩
def win (st : Nat) (ws : List Side) (tn td : Int) (p : Side) : List Tr := winTo st ws p tn td (winHi ws p tn td - winLo ws p tn td)
def trainsTo (st : Nat) (ws ps : List Side) (tn td : Int) (j : Nat) : List Tr := (ps.take j).flatMap (win st ws tn td)
def trainsL (st : Nat) (ws ps : List Side) (tn td : Int) : List Tr := ps.flatMap (win st ws tn td)

theorem winTo_succ (st : Nat) (ws : List Side) (p : Side) (tn td : Int) (k : Nat) : winTo st ws p tn td (k + 1) = winTo st ws p tn td k ++ [⟨(st : Int), ws.toArray[winLo ws p tn td + k]!, p⟩] := by simp [winTo, List.range_succ]
theorem trainsTo_succ (st : Nat) (ws ps : List Side) (tn td : Int) (j : Nat) (hj : j < ps.length) : trainsTo st ws ps tn td (j + 1) = trainsTo st ws ps tn td j ++ win st ws tn td ps[j] := by
  unfold trainsTo
  rw [List.take_succ_eq_append_getElem hj, List.flatMap_append]
  simp
theorem trainsTo_end (st : Nat) (ws ps : List Side) (tn td : Int) : trainsTo st ws ps tn td ps.length = trainsL st ws ps tn td := by unfold trainsTo trainsL; rw [List.take_length]
theorem trainsTo_pre (st : Nat) (ws ps : List Side) (tn td : Int) (j : Nat) (hj : j < ps.length) (k : Nat) (hk : k ≤ winHi ws ps[j] tn td - winLo ws ps[j] tn td) : trainsTo st ws ps tn td j ++ winTo st ws ps[j] tn td k <+: trainsL st ws ps tn td := by
  have h1 : winTo st ws ps[j] tn td k <+: win st ws tn td ps[j] := by
    unfold win winTo
    obtain ⟨m, hm⟩ : ∃ m, winHi ws ps[j] tn td - winLo ws ps[j] tn td = k + m := ⟨_, (Nat.add_sub_cancel' hk).symm⟩
    rw [hm, List.range_add, List.map_append]
    exact List.prefix_append _ _
  have h2 : trainsTo st ws ps tn td (j + 1) <+: trainsL st ws ps tn td := by
    unfold trainsTo trainsL
    conv => rhs; rw [← List.take_append_drop (j + 1) ps, List.flatMap_append]
    exact List.prefix_append _ _
  rw [trainsTo_succ st ws ps tn td j hj] at h2
  obtain ⟨t, ht⟩ := h1
  obtain ⟨u, hu⟩ := h2
  exact ⟨t ++ u, by rw [← hu, ← ht]; simp⟩

theorem cmpF_mono {n n' d m e : Int} (hd : 1 ≤ d) (he : 1 ≤ e) (h : n ≤ n') (hc : 0 < cmpF n d m e) : 0 < cmpF n' d m e := by
  unfold cmpF at *
  have h1 : n * e ≤ n' * e := Int.mul_le_mul_of_nonneg_right h (by omega)
  have h2 := cmpZ_cases (n * e) (m * d)
  rw [cmpZ_gt (by omega)]
  omega

/-- The sides of a search are in order of their products. -/
structure Rows (l : List Side) : Prop where
  len : l.length ≤ 262144
  p : ∀ x ∈ l, 1 ≤ x.p ∧ x.p ≤ 8000000
  mono : ∀ a b, a ≤ b → (ha : a < l.length) → (hb : b < l.length) → l[a].p ≤ l[b].p
theorem rows_sides {low high : Int} {st : Nat} (r : Bool) (h1 : 1 ≤ low) (h2 : low ≤ high) (h3 : high ≤ 200) (h4 : high - low < 64) (hst : st ≤ 3) : Rows (sidesL low high st r) :=
  ⟨sidesL_len h1 h2 h3 h4 hst, fun _ hx => sidesL_p h1 h2 h3 hst hx, fun _ _ hab _ hb => sidesL_mono hab hb⟩
theorem Rows.above {ws : List Side} (h : Rows ws) {p : Int} (hp : 1 ≤ p) {tn td : Int} (hd : 1 ≤ td) : ∀ a b, a ≤ b → b < ws.length → aboveB ws.toArray p tn td a = true → aboveB ws.toArray p tn td b = true := by
  intro a b hab hb hc
  unfold aboveB at *
  rw [decide_eq_true_iff] at *
  have ea : ws.toArray[a]! = ws[a]'(by omega) := by rw [getElem!_pos _ a (by simp; omega)]; simp
  have eb : ws.toArray[b]! = ws[b] := by rw [getElem!_pos _ b (by simp; omega)]; simp
  rw [ea] at hc
  rw [eb]
  exact cmpF_mono hp hd (h.mono a b hab (by omega) hb) hc
theorem aboveN_le (ws : List Side) (p : Side) (tn td : Int) : aboveN ws p tn td ≤ ws.length := by
  unfold aboveN
  have := List.countP_le_length (p := fun i => !aboveB ws.toArray p.p tn td i) (l := List.range ws.length)
  simpa using this
end Go.Proofs.Ytoenimkgagndnaa
namespace Go.Proofs.Ytoenimkgagndnaa
set_option linter.unusedVariables false
set_option linter.unusedSimpArgs false
open Go.RowKit Go.Lib

def quoN (a b : Int) : Int := a / (Int.gcd a b : Int)
def quoD (a b : Int) : Int := b / (Int.gcd a b : Int)
theorem quo_le {a b : Int} (ha : 1 ≤ a) (hb : 1 ≤ b) : 0 ≤ quoN a b ∧ quoN a b ≤ a ∧ 0 ≤ quoD a b ∧ quoD a b ≤ b :=
  ⟨Int.ediv_nonneg (by omega) (by omega), Int.ediv_le_self _ (by omega), Int.ediv_nonneg (by omega) (by omega), Int.ediv_le_self _ (by omega)⟩

theorem make_pos (a b : Int) (w : World) (ha : 1 ≤ a) (ha' : a ≤ 8000000) (hb : 1 ≤ b) (hb' : b ≤ 8000000) :
    Calls Try.prog 17 #[.int .i64 a, .int .i64 b] w fun e w' => e = .returned (.tuple #[.agg #[.int .i64 (quoN a b), .int .i64 (quoD a b)], .int .i64 0]) ∧ Gro w w' := by
  refine (make_any a b w (by omega) (by omega) (by omega) (by omega)).mono ?_
  rintro e w' ⟨hg, hm⟩
  refine ⟨?_, hg⟩
  obtain ⟨h1, h2, h3, h4⟩ := quo_le ha hb
  have na : (a.natAbs : Int) = a := by omega
  have nb : (b.natAbs : Int) = b := by omega
  rcases hm with ⟨h, _⟩ | ⟨_, h⟩
  · omega
  · have hx : quoN a b = ((a.natAbs / Nat.gcd a.natAbs b.natAbs : Nat) : Int) := by unfold quoN Int.gcd; rw [Int.natCast_ediv, na]
    have hy : quoD a b = ((b.natAbs / Nat.gcd a.natAbs b.natAbs : Nat) : Int) := by unfold quoD Int.gcd; rw [Int.natCast_ediv, nb]
    rcases h _ _ hx hy with ⟨h, _⟩ | ⟨_, h⟩
    · omega
    · have e : (decide (a < 0) != decide (b < 0)) = false := by
        rw [show decide (a < 0) = false by simpa using (by omega : 0 ≤ a), show decide (b < 0) = false by simpa using (by omega : 0 ≤ b)]; rfl
      rw [e] at h
      exact h

/-- A train whose products are in bounds. -/
def Tr.ok (t : Tr) : Prop := (1 ≤ t.w.p ∧ t.w.p ≤ 8000000) ∧ 1 ≤ t.p.p ∧ t.p.p ≤ 8000000

set_option maxRecDepth 100000 in
theorem ratio_any (t : Tr) (w : World) (ht : t.ok) :
    Calls Try.prog 83 #[t.val] w fun e w' => e = .returned (.agg #[.int .i64 (quoN t.w.p t.p.p), .int .i64 (quoD t.w.p t.p.p)]) ∧ Gro w w' := by
  obtain ⟨n, ⟨a, b, c, p, s⟩, ⟨a', b', c', p', s'⟩⟩ := t
  obtain ⟨⟨h1, h2⟩, h3, h4⟩ := ht
  simp only [Tr.val, Tr.cells] at *
  have hM := fun W => make_pos p p' W h1 h2 h3 h4
  generalize quoN p p' = x at *
  generalize quoD p p' = y at *
  have H := fun W => Lib.hid (hM W)
  clear hM h1 h2 h3 h4
  go_enter Try.func83, Try.ntmps83
  go_wp2_with (go_at_call 17; refine (H _).out.mono ?_; rintro e w1 ⟨rfl, hk1⟩; have hb1 := hk1.below; obtain ⟨hc1, hf1⟩ := bcell hb1; simp only [World.size_alloc] at hc1 hf1; have hz1 := hb1.size; simp only [World.size_alloc] at hz1; have hg : w.heap.size + 1 < w1.heap.size := (by omega); have h20 : w1.cell? ⟨w.heap.size + 1, 0, none⟩ = some (.int .i64 0) := (by (repeat (first | with_reducible rfl | with_reducible exact Below.refl _ _ | with_reducible exact gro_refl _ | with_reducible refine kc_drew ?_ | with_reducible refine kc_drewN _ ?_ | with_reducible refine kf_drew ?_ | with_reducible refine kf_drewN _ ?_ | with_reducible refine kc_below hb1 ?_ | ((with_reducible refine kc_new ?_ ?_); (focus (first | with_reducible rfl | (simp only [sZ]; done))); (focus (first | rfl | (simp; done)))) | ((with_reducible refine kc_set0 ?_ ?_); (focus (first | rfl | (simp; done)))) | with_reducible refine ct_drew ?_ | with_reducible refine ct_drewN _ ?_ | with_reducible refine ct_below hb1 ?_ | ((with_reducible refine ct_new ?_ ?_); (focus (first | with_reducible rfl | (simp only [sZ]; done))); (focus (first | rfl | (simp; done)))) | with_reducible refine ct_set _ _ ?_ | with_reducible refine ct_alloc _ ?_ | ((with_reducible refine kc_set ?_ ?_); (focus (first | (intro hx; injection hx; omega) | (simp; done)))) | with_reducible refine kc_alloc _ ?_ | ((with_reducible refine kf_new ?_ _); (focus (first | with_reducible rfl | (simp only [sZ]; done)))) | with_reducible refine kf_set _ _ ?_ | ((with_reducible refine kf_below hb1 ?_ ?_); (focus (simp only [sZ]; omega))) | ((with_reducible refine kf_alloc _ ?_ ?_); (focus (first | (simp only [sZ]; omega) | (dsimp only; omega)))) | with_reducible refine bl_alloc ?_ _ | with_reducible refine bl_drew ?_ | with_reducible refine bl_drewN ?_ _ | ((with_reducible refine bl_set ?_ ?_ _); (focus (dsimp only; omega))) | with_reducible refine bl_call ?_ hb1 | with_reducible refine gro_alloc ?_ _ | with_reducible refine gro_drew ?_ | with_reducible refine gro_drewN ?_ _ | ((with_reducible refine gro_set ?_ ?_ _); (focus (first | omega | (dsimp only; omega)))) | with_reducible refine gro_call ?_ hk1))); have h21 : w1.cell? ⟨w.heap.size + 1, 1, none⟩ = some (.int .i64 0) := (by (repeat (first | with_reducible rfl | with_reducible exact Below.refl _ _ | with_reducible exact gro_refl _ | with_reducible refine kc_drew ?_ | with_reducible refine kc_drewN _ ?_ | with_reducible refine kf_drew ?_ | with_reducible refine kf_drewN _ ?_ | with_reducible refine kc_below hb1 ?_ | ((with_reducible refine kc_new ?_ ?_); (focus (first | with_reducible rfl | (simp only [sZ]; done))); (focus (first | rfl | (simp; done)))) | ((with_reducible refine kc_set0 ?_ ?_); (focus (first | rfl | (simp; done)))) | with_reducible refine ct_drew ?_ | with_reducible refine ct_drewN _ ?_ | with_reducible refine ct_below hb1 ?_ | ((with_reducible refine ct_new ?_ ?_); (focus (first | with_reducible rfl | (simp only [sZ]; done))); (focus (first | rfl | (simp; done)))) | with_reducible refine ct_set _ _ ?_ | with_reducible refine ct_alloc _ ?_ | ((with_reducible refine kc_set ?_ ?_); (focus (first | (intro hx; injection hx; omega) | (simp; done)))) | with_reducible refine kc_alloc _ ?_ | ((with_reducible refine kf_new ?_ _); (focus (first | with_reducible rfl | (simp only [sZ]; done)))) | with_reducible refine kf_set _ _ ?_ | ((with_reducible refine kf_below hb1 ?_ ?_); (focus (simp only [sZ]; omega))) | ((with_reducible refine kf_alloc _ ?_ ?_); (focus (first | (simp only [sZ]; omega) | (dsimp only; omega)))) | with_reducible refine bl_alloc ?_ _ | with_reducible refine bl_drew ?_ | with_reducible refine bl_drewN ?_ _ | ((with_reducible refine bl_set ?_ ?_ _); (focus (dsimp only; omega))) | with_reducible refine bl_call ?_ hb1 | with_reducible refine gro_alloc ?_ _ | with_reducible refine gro_drew ?_ | with_reducible refine gro_drewN ?_ _ | ((with_reducible refine gro_set ?_ ?_ _); (focus (first | omega | (dsimp only; omega)))) | with_reducible refine gro_call ?_ hk1))); have f20 : w1.frozen? ⟨w.heap.size + 1, 0, none⟩ = false := (by (repeat (first | with_reducible rfl | with_reducible exact Below.refl _ _ | with_reducible exact gro_refl _ | with_reducible refine kc_drew ?_ | with_reducible refine kc_drewN _ ?_ | with_reducible refine kf_drew ?_ | with_reducible refine kf_drewN _ ?_ | with_reducible refine kc_below hb1 ?_ | ((with_reducible refine kc_new ?_ ?_); (focus (first | with_reducible rfl | (simp only [sZ]; done))); (focus (first | rfl | (simp; done)))) | ((with_reducible refine kc_set0 ?_ ?_); (focus (first | rfl | (simp; done)))) | with_reducible refine ct_drew ?_ | with_reducible refine ct_drewN _ ?_ | with_reducible refine ct_below hb1 ?_ | ((with_reducible refine ct_new ?_ ?_); (focus (first | with_reducible rfl | (simp only [sZ]; done))); (focus (first | rfl | (simp; done)))) | with_reducible refine ct_set _ _ ?_ | with_reducible refine ct_alloc _ ?_ | ((with_reducible refine kc_set ?_ ?_); (focus (first | (intro hx; injection hx; omega) | (simp; done)))) | with_reducible refine kc_alloc _ ?_ | ((with_reducible refine kf_new ?_ _); (focus (first | with_reducible rfl | (simp only [sZ]; done)))) | with_reducible refine kf_set _ _ ?_ | ((with_reducible refine kf_below hb1 ?_ ?_); (focus (simp only [sZ]; omega))) | ((with_reducible refine kf_alloc _ ?_ ?_); (focus (first | (simp only [sZ]; omega) | (dsimp only; omega)))) | with_reducible refine bl_alloc ?_ _ | with_reducible refine bl_drew ?_ | with_reducible refine bl_drewN ?_ _ | ((with_reducible refine bl_set ?_ ?_ _); (focus (dsimp only; omega))) | with_reducible refine bl_call ?_ hb1 | with_reducible refine gro_alloc ?_ _ | with_reducible refine gro_drew ?_ | with_reducible refine gro_drewN ?_ _ | ((with_reducible refine gro_set ?_ ?_ _); (focus (first | omega | (dsimp only; omega)))) | with_reducible refine gro_call ?_ hk1))); have f21 : w1.frozen? ⟨w.heap.size + 1, 1, none⟩ = false := (by (repeat (first | with_reducible rfl | with_reducible exact Below.refl _ _ | with_reducible exact gro_refl _ | with_reducible refine kc_drew ?_ | with_reducible refine kc_drewN _ ?_ | with_reducible refine kf_drew ?_ | with_reducible refine kf_drewN _ ?_ | with_reducible refine kc_below hb1 ?_ | ((with_reducible refine kc_new ?_ ?_); (focus (first | with_reducible rfl | (simp only [sZ]; done))); (focus (first | rfl | (simp; done)))) | ((with_reducible refine kc_set0 ?_ ?_); (focus (first | rfl | (simp; done)))) | with_reducible refine ct_drew ?_ | with_reducible refine ct_drewN _ ?_ | with_reducible refine ct_below hb1 ?_ | ((with_reducible refine ct_new ?_ ?_); (focus (first | with_reducible rfl | (simp only [sZ]; done))); (focus (first | rfl | (simp; done)))) | with_reducible refine ct_set _ _ ?_ | with_reducible refine ct_alloc _ ?_ | ((with_reducible refine kc_set ?_ ?_); (focus (first | (intro hx; injection hx; omega) | (simp; done)))) | with_reducible refine kc_alloc _ ?_ | ((with_reducible refine kf_new ?_ _); (focus (first | with_reducible rfl | (simp only [sZ]; done)))) | with_reducible refine kf_set _ _ ?_ | ((with_reducible refine kf_below hb1 ?_ ?_); (focus (simp only [sZ]; omega))) | ((with_reducible refine kf_alloc _ ?_ ?_); (focus (first | (simp only [sZ]; omega) | (dsimp only; omega)))) | with_reducible refine bl_alloc ?_ _ | with_reducible refine bl_drew ?_ | with_reducible refine bl_drewN ?_ _ | ((with_reducible refine bl_set ?_ ?_ _); (focus (dsimp only; omega))) | with_reducible refine bl_call ?_ hb1 | with_reducible refine gro_alloc ?_ _ | with_reducible refine gro_drew ?_ | with_reducible refine gro_drewN ?_ _ | ((with_reducible refine gro_set ?_ ?_ _); (focus (first | omega | (dsimp only; omega)))) | with_reducible refine gro_call ?_ hk1))))
  exact bodyPost_ret (v := .agg #[.int .i64 x, .int .i64 y]) (by simp [results, Try.results83, go_sem, h20, h21, hg, Nat.ne_of_lt hg]) rfl ⟨rfl, by (repeat (first | with_reducible rfl | with_reducible exact Below.refl _ _ | with_reducible exact gro_refl _ | with_reducible refine kc_drew ?_ | with_reducible refine kc_drewN _ ?_ | with_reducible refine kf_drew ?_ | with_reducible refine kf_drewN _ ?_ | with_reducible refine kc_below hb1 ?_ | ((with_reducible refine kc_new ?_ ?_); (focus (first | with_reducible rfl | (simp only [sZ]; done))); (focus (first | rfl | (simp; done)))) | ((with_reducible refine kc_set0 ?_ ?_); (focus (first | rfl | (simp; done)))) | with_reducible refine ct_drew ?_ | with_reducible refine ct_drewN _ ?_ | with_reducible refine ct_below hb1 ?_ | ((with_reducible refine ct_new ?_ ?_); (focus (first | with_reducible rfl | (simp only [sZ]; done))); (focus (first | rfl | (simp; done)))) | with_reducible refine ct_set _ _ ?_ | with_reducible refine ct_alloc _ ?_ | ((with_reducible refine kc_set ?_ ?_); (focus (first | (intro hx; injection hx; omega) | (simp; done)))) | with_reducible refine kc_alloc _ ?_ | ((with_reducible refine kf_new ?_ _); (focus (first | with_reducible rfl | (simp only [sZ]; done)))) | with_reducible refine kf_set _ _ ?_ | ((with_reducible refine kf_below hb1 ?_ ?_); (focus (simp only [sZ]; omega))) | ((with_reducible refine kf_alloc _ ?_ ?_); (focus (first | (simp only [sZ]; omega) | (dsimp only; omega)))) | with_reducible refine bl_alloc ?_ _ | with_reducible refine bl_drew ?_ | with_reducible refine bl_drewN ?_ _ | ((with_reducible refine bl_set ?_ ?_ _); (focus (dsimp only; omega))) | with_reducible refine bl_call ?_ hb1 | with_reducible refine gro_alloc ?_ _ | with_reducible refine gro_drew ?_ | with_reducible refine gro_drewN ?_ _ | ((with_reducible refine gro_set ?_ ?_ _); (focus (first | omega | (dsimp only; omega)))) | with_reducible refine gro_call ?_ hk1))⟩
end Go.Proofs.Ytoenimkgagndnaa
namespace Go.Proofs.Ytoenimkgagndnaa
set_option linter.unusedVariables false
set_option linter.unusedSimpArgs false
open Go.RowKit

set_option maxHeartbeats 2000000 in
theorem cmp3_at1 (a b c a' b' c' : Int) (g k : Nat) (w : World) (h0 : w.cell? ⟨g, 1, none⟩ = some (.int .i64 a)) (h1 : w.cell? ⟨g, 2, none⟩ = some (.int .i64 b)) (h2 : w.cell? ⟨g, 3, none⟩ = some (.int .i64 c))
    (k0 : w.cell? ⟨k, 1, none⟩ = some (.int .i64 a')) (k1 : w.cell? ⟨k, 2, none⟩ = some (.int .i64 b')) (k2 : w.cell? ⟨k, 3, none⟩ = some (.int .i64 c')) :
    Calls Try.prog 108 #[.slice (some ⟨g, 1, none⟩) 3 3, .slice (some ⟨k, 1, none⟩) 3 3] w fun e w' => e = .returned (.int .i64 (lex3 a b c a' b' c')) ∧ w = w' := by
  by_cases e1 : a = a'
  · have N1 := fun W => Lib.hid (cmpEq e1 W)
    by_cases e2 : b = b'
    · have N2 := fun W => Lib.hid (cmpEq e2 W)
      by_cases e3 : c = c'
      · have N3 := fun W => Lib.hid (cmpEq e3 W)
        have E := Lib.hid (show lex3 a b c a' b' c' = 0 by unfold lex3; rw [if_neg (by omega), if_neg (by omega), cmpZ_eq e3])
        clear e1 e2 e3
        go_enter Try.func108, Try.ntmps108
        go_wp2_with fail
        refine wp_loop_rounds 4 ?_
        rw [rounds_succ]
        go_wp2_with fail
        refine (N1 _).out.mono ?_
        rintro e w' ⟨rfl, rfl⟩
        go_wp2_with fail
        rw [rounds_succ]
        go_wp2_with fail
        refine (N2 _).out.mono ?_
        rintro e w' ⟨rfl, rfl⟩
        go_wp2_with fail
        rw [rounds_succ]
        go_wp2_with fail
        refine (N3 _).out.mono ?_
        rintro e w' ⟨rfl, rfl⟩
        go_wp2_with fail
        rw [rounds_succ]
        go_wp2_with fail
        go_ret
        exact ⟨ret_i64 E.out.symm, rfl⟩
      · obtain ⟨r, hr, hc, N3⟩ := cmpNe e3
        have E := Lib.hid (show lex3 a b c a' b' c' = r by unfold lex3; rw [if_neg (by omega), if_neg (by omega)]; exact hc.out)
        clear e1 e2 e3 hc
        go_enter Try.func108, Try.ntmps108
        go_wp2_with fail
        refine wp_loop_rounds 4 ?_
        rw [rounds_succ]
        go_wp2_with fail
        refine (N1 _).out.mono ?_
        rintro e w' ⟨rfl, rfl⟩
        go_wp2_with fail
        rw [rounds_succ]
        go_wp2_with fail
        refine (N2 _).out.mono ?_
        rintro e w' ⟨rfl, rfl⟩
        go_wp2_with fail
        rw [rounds_succ]
        go_wp2_with fail
        refine (N3 _).out.mono ?_
        rintro e w' ⟨rfl, rfl⟩
        go_wp2_with fail
        go_ret
        exact ⟨ret_i64 E.out.symm, rfl⟩
    · obtain ⟨r, hr, hc, N2⟩ := cmpNe e2
      have E := Lib.hid (show lex3 a b c a' b' c' = r by unfold lex3; rw [if_neg (by omega), if_pos e2]; exact hc.out)
      clear e1 e2 hc
      go_enter Try.func108, Try.ntmps108
      go_wp2_with fail
      refine wp_loop_rounds 4 ?_
      rw [rounds_succ]
      go_wp2_with fail
      refine (N1 _).out.mono ?_
      rintro e w' ⟨rfl, rfl⟩
      go_wp2_with fail
      rw [rounds_succ]
      go_wp2_with fail
      refine (N2 _).out.mono ?_
      rintro e w' ⟨rfl, rfl⟩
      go_wp2_with fail
      go_ret
      exact ⟨ret_i64 E.out.symm, rfl⟩
  · obtain ⟨r, hr, hc, N1⟩ := cmpNe e1
    have E := Lib.hid (show lex3 a b c a' b' c' = r by unfold lex3; rw [if_pos e1]; exact hc.out)
    clear e1 hc
    go_enter Try.func108, Try.ntmps108
    go_wp2_with fail
    refine wp_loop_rounds 4 ?_
    rw [rounds_succ]
    go_wp2_with fail
    refine (N1 _).out.mono ?_
    rintro e w' ⟨rfl, rfl⟩
    go_wp2_with fail
    go_ret
    exact ⟨ret_i64 E.out.symm, rfl⟩

set_option maxHeartbeats 2000000 in
theorem cmp3_at6 (a b c a' b' c' : Int) (g k : Nat) (w : World) (h0 : w.cell? ⟨g, 6, none⟩ = some (.int .i64 a)) (h1 : w.cell? ⟨g, 7, none⟩ = some (.int .i64 b)) (h2 : w.cell? ⟨g, 8, none⟩ = some (.int .i64 c))
    (k0 : w.cell? ⟨k, 6, none⟩ = some (.int .i64 a')) (k1 : w.cell? ⟨k, 7, none⟩ = some (.int .i64 b')) (k2 : w.cell? ⟨k, 8, none⟩ = some (.int .i64 c')) :
    Calls Try.prog 108 #[.slice (some ⟨g, 6, none⟩) 3 3, .slice (some ⟨k, 6, none⟩) 3 3] w fun e w' => e = .returned (.int .i64 (lex3 a b c a' b' c')) ∧ w = w' := by
  by_cases e1 : a = a'
  · have N1 := fun W => Lib.hid (cmpEq e1 W)
    by_cases e2 : b = b'
    · have N2 := fun W => Lib.hid (cmpEq e2 W)
      by_cases e3 : c = c'
      · have N3 := fun W => Lib.hid (cmpEq e3 W)
        have E := Lib.hid (show lex3 a b c a' b' c' = 0 by unfold lex3; rw [if_neg (by omega), if_neg (by omega), cmpZ_eq e3])
        clear e1 e2 e3
        go_enter Try.func108, Try.ntmps108
        go_wp2_with fail
        refine wp_loop_rounds 4 ?_
        rw [rounds_succ]
        go_wp2_with fail
        refine (N1 _).out.mono ?_
        rintro e w' ⟨rfl, rfl⟩
        go_wp2_with fail
        rw [rounds_succ]
        go_wp2_with fail
        refine (N2 _).out.mono ?_
        rintro e w' ⟨rfl, rfl⟩
        go_wp2_with fail
        rw [rounds_succ]
        go_wp2_with fail
        refine (N3 _).out.mono ?_
        rintro e w' ⟨rfl, rfl⟩
        go_wp2_with fail
        rw [rounds_succ]
        go_wp2_with fail
        go_ret
        exact ⟨ret_i64 E.out.symm, rfl⟩
      · obtain ⟨r, hr, hc, N3⟩ := cmpNe e3
        have E := Lib.hid (show lex3 a b c a' b' c' = r by unfold lex3; rw [if_neg (by omega), if_neg (by omega)]; exact hc.out)
        clear e1 e2 e3 hc
        go_enter Try.func108, Try.ntmps108
        go_wp2_with fail
        refine wp_loop_rounds 4 ?_
        rw [rounds_succ]
        go_wp2_with fail
        refine (N1 _).out.mono ?_
        rintro e w' ⟨rfl, rfl⟩
        go_wp2_with fail
        rw [rounds_succ]
        go_wp2_with fail
        refine (N2 _).out.mono ?_
        rintro e w' ⟨rfl, rfl⟩
        go_wp2_with fail
        rw [rounds_succ]
        go_wp2_with fail
        refine (N3 _).out.mono ?_
        rintro e w' ⟨rfl, rfl⟩
        go_wp2_with fail
        go_ret
        exact ⟨ret_i64 E.out.symm, rfl⟩
    · obtain ⟨r, hr, hc, N2⟩ := cmpNe e2
      have E := Lib.hid (show lex3 a b c a' b' c' = r by unfold lex3; rw [if_neg (by omega), if_pos e2]; exact hc.out)
      clear e1 e2 hc
      go_enter Try.func108, Try.ntmps108
      go_wp2_with fail
      refine wp_loop_rounds 4 ?_
      rw [rounds_succ]
      go_wp2_with fail
      refine (N1 _).out.mono ?_
      rintro e w' ⟨rfl, rfl⟩
      go_wp2_with fail
      rw [rounds_succ]
      go_wp2_with fail
      refine (N2 _).out.mono ?_
      rintro e w' ⟨rfl, rfl⟩
      go_wp2_with fail
      go_ret
      exact ⟨ret_i64 E.out.symm, rfl⟩
  · obtain ⟨r, hr, hc, N1⟩ := cmpNe e1
    have E := Lib.hid (show lex3 a b c a' b' c' = r by unfold lex3; rw [if_pos e1]; exact hc.out)
    clear e1 hc
    go_enter Try.func108, Try.ntmps108
    go_wp2_with fail
    refine wp_loop_rounds 4 ?_
    rw [rounds_succ]
    go_wp2_with fail
    refine (N1 _).out.mono ?_
    rintro e w' ⟨rfl, rfl⟩
    go_wp2_with fail
    go_ret
    exact ⟨ret_i64 E.out.symm, rfl⟩

end Go.Proofs.Ytoenimkgagndnaa
namespace Go.Proofs.Ytoenimkgagndnaa
set_option linter.unusedVariables false
set_option linter.unusedSimpArgs false
open Go.RowKit Go.Lib

theorem qt_sum {P : Program} {f : FuncId} {args : Array Value} {W : World} {a k : Nat} {v : Value}
    (h : Calls P f args (W.drewN (a + k)) fun e w' => e = .returned v ∧ W.drewN (a + k) = w') : Calls P f args (W.drewN (a + k)) fun e w'' => e = .returned v ∧ ∃ m, w'' = W.drewN (a + m) :=
  h.mono fun _ _ ⟨he, hm⟩ => ⟨he, k, hm.symm⟩
theorem qt_sum3 {P : Program} {f : FuncId} {args : Array Value} {W : World} {a b k : Nat} {v : Value}
    (h : Calls P f args (W.drewN (a + (b + k))) fun e w' => e = .returned v ∧ W.drewN (a + (b + k)) = w') : Calls P f args (W.drewN (a + (b + k))) fun e w'' => e = .returned v ∧ ∃ m, w'' = W.drewN (a + (b + m)) :=
  h.mono fun _ _ ⟨he, hm⟩ => ⟨he, k, hm.symm⟩

/-- A train whose sums are in bounds. -/
def Tr.sok (t : Tr) : Prop := (0 ≤ t.w.s ∧ t.w.s ≤ 600) ∧ 0 ≤ t.p.s ∧ t.p.s ≤ 600

/-- What better answers. -/
def betF (t u : Tr) : Bool :=
  if t.n ≠ u.n then decide (t.n < u.n)
  else if t.w.s + t.p.s ≠ u.w.s + u.p.s then decide (t.w.s + t.p.s < u.w.s + u.p.s)
  else if lex3 t.w.a t.w.b t.w.c u.w.a u.w.b u.w.c ≠ 0 then decide (lex3 t.w.a t.w.b t.w.c u.w.a u.w.b u.w.c < 0)
  else decide (lex3 t.p.a t.p.b t.p.c u.p.a u.p.b u.p.c < 0)

set_option maxHeartbeats 2000000 in
set_option maxRecDepth 100000 in
theorem better_any (t u : Tr) (w : World) (ht : t.sok) (hu : u.sok) :
    Calls Try.prog 84 #[t.val, u.val] w fun e w' => e = .returned (.bool (betF t u)) ∧ Gro w w' := by
  obtain ⟨n, ⟨a, b, c, p, s⟩, ⟨a', b', c', p', s'⟩⟩ := t
  obtain ⟨m, ⟨d, e, f, q, r⟩, ⟨d', e', f', q', r'⟩⟩ := u
  obtain ⟨⟨h1, h2⟩, h3, h4⟩ := ht
  obtain ⟨⟨h5, h6⟩, h7, h8⟩ := hu
  simp only [Tr.val, Tr.cells] at *
  have E0 := Lib.hid (show betF ⟨n, ⟨a, b, c, p, s⟩, ⟨a', b', c', p', s'⟩⟩ ⟨m, ⟨d, e, f, q, r⟩, ⟨d', e', f', q', r'⟩⟩ =
    if n ≠ m then decide (n < m) else if s + s' ≠ r + r' then decide (s + s' < r + r') else if lex3 a b c d e f ≠ 0 then decide (lex3 a b c d e f < 0) else decide (lex3 a' b' c' d' e' f' < 0) from rfl)
  generalize betF ⟨n, ⟨a, b, c, p, s⟩, ⟨a', b', c', p', s'⟩⟩ ⟨m, ⟨d, e, f, q, r⟩, ⟨d', e', f', q', r'⟩⟩ = R at *
  by_cases e1 : n = m
  · have t1 : (n != m) = false := by simpa using e1
    have E1 := Lib.hid (E0.out.trans (if_neg (by simpa using e1)))
    have b1 : 0 ≤ s + s' ∧ s + s' ≤ 1200 := by omega
    have b2 : 0 ≤ r + r' ∧ r + r' ≤ 1200 := by omega
    have w1 : IntKind.i64.wrap (s + s') = s + s' := IntWalk.i64_in _ (by omega)
    have w2 : IntKind.i64.wrap (r + r') = r + r' := IntWalk.i64_in _ (by omega)
    clear h1 h2 h3 h4 h5 h6 h7 h8 E0 e1
    by_cases e2 : s + s' = r + r'
    · have t2 : (s + s' != r + r') = false := by simpa using e2
      have E2 := Lib.hid (E1.out.trans (if_neg (by simpa using e2)))
      have hc := fun (W : World) g k h0 h1 h2 k0 k1 k2 => Lib.hid (cmp3_at1 a b c d e f g k W h0 h1 h2 k0 k1 k2)
      have hd := fun (W : World) g k h0 h1 h2 k0 k1 k2 => Lib.hid (cmp3_at6 a' b' c' d' e' f' g k W h0 h1 h2 k0 k1 k2)
      generalize lex3 a b c d e f = x at *
      generalize lex3 a' b' c' d' e' f' = y at *
      by_cases e3 : x = 0
      · have t3 : (x != 0) = false := by simpa using e3
        have E := Lib.hid (E2.out.trans (if_neg (by simpa using e3)))
        clear E1 E2 e3 e2
        go_enter Try.func84, Try.ntmps84
        go_wp2_with fail
        go_quiet (fail)
        go_wp2_with fail
        go_quiet ((go_at_call 108; (first | refine qt_sum3 (hc _ _ _ ?_ ?_ ?_ ?_ ?_ ?_).out | refine qt_sum (hc _ _ _ ?_ ?_ ?_ ?_ ?_ ?_).out); all_goals (repeat (first | with_reducible rfl | with_reducible exact Below.refl _ _ | with_reducible exact gro_refl _ | with_reducible refine kc_drew ?_ | with_reducible refine kc_drewN _ ?_ | with_reducible refine kf_drew ?_ | with_reducible refine kf_drewN _ ?_ | ((with_reducible refine kc_new ?_ ?_); (focus (first | with_reducible rfl | (simp only [sZ]; done))); (focus (first | rfl | (simp; done)))) | ((with_reducible refine kc_set0 ?_ ?_); (focus (first | rfl | (simp; done)))) | with_reducible refine ct_drew ?_ | with_reducible refine ct_drewN _ ?_ | ((with_reducible refine ct_new ?_ ?_); (focus (first | with_reducible rfl | (simp only [sZ]; done))); (focus (first | rfl | (simp; done)))) | with_reducible refine ct_set _ _ ?_ | with_reducible refine ct_alloc _ ?_ | ((with_reducible refine kc_set ?_ ?_); (focus (first | (intro hx; injection hx; omega) | (simp; done)))) | with_reducible refine kc_alloc _ ?_ | ((with_reducible refine kf_new ?_ _); (focus (first | with_reducible rfl | (simp only [sZ]; done)))) | with_reducible refine kf_set _ _ ?_ | ((with_reducible refine kf_alloc _ ?_ ?_); (focus (first | (simp only [sZ]; omega) | (dsimp only; omega)))) | with_reducible refine bl_alloc ?_ _ | with_reducible refine bl_drew ?_ | with_reducible refine bl_drewN ?_ _ | ((with_reducible refine bl_set ?_ ?_ _); (focus (dsimp only; omega))) | with_reducible refine gro_alloc ?_ _ | with_reducible refine gro_drew ?_ | with_reducible refine gro_drewN ?_ _ | ((with_reducible refine gro_set ?_ ?_ _); (focus (first | omega | (dsimp only; omega))))))))
        go_wp2_with fail
        go_quiet ((go_at_call 108; (first | refine qt_sum3 (hd _ _ _ ?_ ?_ ?_ ?_ ?_ ?_).out | refine qt_sum (hd _ _ _ ?_ ?_ ?_ ?_ ?_ ?_).out); all_goals (repeat (first | with_reducible rfl | with_reducible exact Below.refl _ _ | with_reducible exact gro_refl _ | with_reducible refine kc_drew ?_ | with_reducible refine kc_drewN _ ?_ | with_reducible refine kf_drew ?_ | with_reducible refine kf_drewN _ ?_ | ((with_reducible refine kc_new ?_ ?_); (focus (first | with_reducible rfl | (simp only [sZ]; done))); (focus (first | rfl | (simp; done)))) | ((with_reducible refine kc_set0 ?_ ?_); (focus (first | rfl | (simp; done)))) | with_reducible refine ct_drew ?_ | with_reducible refine ct_drewN _ ?_ | ((with_reducible refine ct_new ?_ ?_); (focus (first | with_reducible rfl | (simp only [sZ]; done))); (focus (first | rfl | (simp; done)))) | with_reducible refine ct_set _ _ ?_ | with_reducible refine ct_alloc _ ?_ | ((with_reducible refine kc_set ?_ ?_); (focus (first | (intro hx; injection hx; omega) | (simp; done)))) | with_reducible refine kc_alloc _ ?_ | ((with_reducible refine kf_new ?_ _); (focus (first | with_reducible rfl | (simp only [sZ]; done)))) | with_reducible refine kf_set _ _ ?_ | ((with_reducible refine kf_alloc _ ?_ ?_); (focus (first | (simp only [sZ]; omega) | (dsimp only; omega)))) | with_reducible refine bl_alloc ?_ _ | with_reducible refine bl_drew ?_ | with_reducible refine bl_drewN ?_ _ | ((with_reducible refine bl_set ?_ ?_ _); (focus (dsimp only; omega))) | with_reducible refine gro_alloc ?_ _ | with_reducible refine gro_drew ?_ | with_reducible refine gro_drewN ?_ _ | ((with_reducible refine gro_set ?_ ?_ _); (focus (first | omega | (dsimp only; omega))))))))
        go_wp2_with fail
        go_ret
        exact ⟨ret_bool E.out.symm, by (repeat (first | with_reducible rfl | with_reducible exact Below.refl _ _ | with_reducible exact gro_refl _ | with_reducible refine kc_drew ?_ | with_reducible refine kc_drewN _ ?_ | with_reducible refine kf_drew ?_ | with_reducible refine kf_drewN _ ?_ | ((with_reducible refine kc_new ?_ ?_); (focus (first | with_reducible rfl | (simp only [sZ]; done))); (focus (first | rfl | (simp; done)))) | ((with_reducible refine kc_set0 ?_ ?_); (focus (first | rfl | (simp; done)))) | with_reducible refine ct_drew ?_ | with_reducible refine ct_drewN _ ?_ | ((with_reducible refine ct_new ?_ ?_); (focus (first | with_reducible rfl | (simp only [sZ]; done))); (focus (first | rfl | (simp; done)))) | with_reducible refine ct_set _ _ ?_ | with_reducible refine ct_alloc _ ?_ | ((with_reducible refine kc_set ?_ ?_); (focus (first | (intro hx; injection hx; omega) | (simp; done)))) | with_reducible refine kc_alloc _ ?_ | ((with_reducible refine kf_new ?_ _); (focus (first | with_reducible rfl | (simp only [sZ]; done)))) | with_reducible refine kf_set _ _ ?_ | ((with_reducible refine kf_alloc _ ?_ ?_); (focus (first | (simp only [sZ]; omega) | (dsimp only; omega)))) | with_reducible refine bl_alloc ?_ _ | with_reducible refine bl_drew ?_ | with_reducible refine bl_drewN ?_ _ | ((with_reducible refine bl_set ?_ ?_ _); (focus (dsimp only; omega))) | with_reducible refine gro_alloc ?_ _ | with_reducible refine gro_drew ?_ | with_reducible refine gro_drewN ?_ _ | ((with_reducible refine gro_set ?_ ?_ _); (focus (first | omega | (dsimp only; omega))))))⟩
      · have t3 : (x != 0) = true := by simpa using e3
        have E := Lib.hid (E2.out.trans (if_pos (by simpa using e3)))
        clear E1 E2 e3 e2
        go_enter Try.func84, Try.ntmps84
        go_wp2_with fail
        go_quiet (fail)
        go_wp2_with fail
        go_quiet ((go_at_call 108; (first | refine qt_sum3 (hc _ _ _ ?_ ?_ ?_ ?_ ?_ ?_).out | refine qt_sum (hc _ _ _ ?_ ?_ ?_ ?_ ?_ ?_).out); all_goals (repeat (first | with_reducible rfl | with_reducible exact Below.refl _ _ | with_reducible exact gro_refl _ | with_reducible refine kc_drew ?_ | with_reducible refine kc_drewN _ ?_ | with_reducible refine kf_drew ?_ | with_reducible refine kf_drewN _ ?_ | ((with_reducible refine kc_new ?_ ?_); (focus (first | with_reducible rfl | (simp only [sZ]; done))); (focus (first | rfl | (simp; done)))) | ((with_reducible refine kc_set0 ?_ ?_); (focus (first | rfl | (simp; done)))) | with_reducible refine ct_drew ?_ | with_reducible refine ct_drewN _ ?_ | ((with_reducible refine ct_new ?_ ?_); (focus (first | with_reducible rfl | (simp only [sZ]; done))); (focus (first | rfl | (simp; done)))) | with_reducible refine ct_set _ _ ?_ | with_reducible refine ct_alloc _ ?_ | ((with_reducible refine kc_set ?_ ?_); (focus (first | (intro hx; injection hx; omega) | (simp; done)))) | with_reducible refine kc_alloc _ ?_ | ((with_reducible refine kf_new ?_ _); (focus (first | with_reducible rfl | (simp only [sZ]; done)))) | with_reducible refine kf_set _ _ ?_ | ((with_reducible refine kf_alloc _ ?_ ?_); (focus (first | (simp only [sZ]; omega) | (dsimp only; omega)))) | with_reducible refine bl_alloc ?_ _ | with_reducible refine bl_drew ?_ | with_reducible refine bl_drewN ?_ _ | ((with_reducible refine bl_set ?_ ?_ _); (focus (dsimp only; omega))) | with_reducible refine gro_alloc ?_ _ | with_reducible refine gro_drew ?_ | with_reducible refine gro_drewN ?_ _ | ((with_reducible refine gro_set ?_ ?_ _); (focus (first | omega | (dsimp only; omega))))))))
        go_wp2_with fail
        go_ret
        exact ⟨ret_bool E.out.symm, by (repeat (first | with_reducible rfl | with_reducible exact Below.refl _ _ | with_reducible exact gro_refl _ | with_reducible refine kc_drew ?_ | with_reducible refine kc_drewN _ ?_ | with_reducible refine kf_drew ?_ | with_reducible refine kf_drewN _ ?_ | ((with_reducible refine kc_new ?_ ?_); (focus (first | with_reducible rfl | (simp only [sZ]; done))); (focus (first | rfl | (simp; done)))) | ((with_reducible refine kc_set0 ?_ ?_); (focus (first | rfl | (simp; done)))) | with_reducible refine ct_drew ?_ | with_reducible refine ct_drewN _ ?_ | ((with_reducible refine ct_new ?_ ?_); (focus (first | with_reducible rfl | (simp only [sZ]; done))); (focus (first | rfl | (simp; done)))) | with_reducible refine ct_set _ _ ?_ | with_reducible refine ct_alloc _ ?_ | ((with_reducible refine kc_set ?_ ?_); (focus (first | (intro hx; injection hx; omega) | (simp; done)))) | with_reducible refine kc_alloc _ ?_ | ((with_reducible refine kf_new ?_ _); (focus (first | with_reducible rfl | (simp only [sZ]; done)))) | with_reducible refine kf_set _ _ ?_ | ((with_reducible refine kf_alloc _ ?_ ?_); (focus (first | (simp only [sZ]; omega) | (dsimp only; omega)))) | with_reducible refine bl_alloc ?_ _ | with_reducible refine bl_drew ?_ | with_reducible refine bl_drewN ?_ _ | ((with_reducible refine bl_set ?_ ?_ _); (focus (dsimp only; omega))) | with_reducible refine gro_alloc ?_ _ | with_reducible refine gro_drew ?_ | with_reducible refine gro_drewN ?_ _ | ((with_reducible refine gro_set ?_ ?_ _); (focus (first | omega | (dsimp only; omega))))))⟩
    · have t2 : (s + s' != r + r') = true := by simpa using e2
      have E := Lib.hid (E1.out.trans (if_pos (by simpa using e2)))
      clear E1 e2
      go_enter Try.func84, Try.ntmps84
      go_wp2_with fail
      go_quiet (fail)
      go_wp2_with fail
      go_ret
      exact ⟨ret_bool E.out.symm, by (repeat (first | with_reducible rfl | with_reducible exact Below.refl _ _ | with_reducible exact gro_refl _ | with_reducible refine kc_drew ?_ | with_reducible refine kc_drewN _ ?_ | with_reducible refine kf_drew ?_ | with_reducible refine kf_drewN _ ?_ | ((with_reducible refine kc_new ?_ ?_); (focus (first | with_reducible rfl | (simp only [sZ]; done))); (focus (first | rfl | (simp; done)))) | ((with_reducible refine kc_set0 ?_ ?_); (focus (first | rfl | (simp; done)))) | with_reducible refine ct_drew ?_ | with_reducible refine ct_drewN _ ?_ | ((with_reducible refine ct_new ?_ ?_); (focus (first | with_reducible rfl | (simp only [sZ]; done))); (focus (first | rfl | (simp; done)))) | with_reducible refine ct_set _ _ ?_ | with_reducible refine ct_alloc _ ?_ | ((with_reducible refine kc_set ?_ ?_); (focus (first | (intro hx; injection hx; omega) | (simp; done)))) | with_reducible refine kc_alloc _ ?_ | ((with_reducible refine kf_new ?_ _); (focus (first | with_reducible rfl | (simp only [sZ]; done)))) | with_reducible refine kf_set _ _ ?_ | ((with_reducible refine kf_alloc _ ?_ ?_); (focus (first | (simp only [sZ]; omega) | (dsimp only; omega)))) | with_reducible refine bl_alloc ?_ _ | with_reducible refine bl_drew ?_ | with_reducible refine bl_drewN ?_ _ | ((with_reducible refine bl_set ?_ ?_ _); (focus (dsimp only; omega))) | with_reducible refine gro_alloc ?_ _ | with_reducible refine gro_drew ?_ | with_reducible refine gro_drewN ?_ _ | ((with_reducible refine gro_set ?_ ?_ _); (focus (first | omega | (dsimp only; omega))))))⟩
  · have t1 : (n != m) = true := by simpa using e1
    have E := Lib.hid (E0.out.trans (if_pos (by simpa using e1)))
    clear e1 E0
    go_enter Try.func84, Try.ntmps84
    go_wp2_with fail
    go_ret
    exact ⟨ret_bool E.out.symm, by (repeat (first | with_reducible rfl | with_reducible exact Below.refl _ _ | with_reducible exact gro_refl _ | with_reducible refine kc_drew ?_ | with_reducible refine kc_drewN _ ?_ | with_reducible refine kf_drew ?_ | with_reducible refine kf_drewN _ ?_ | ((with_reducible refine kc_new ?_ ?_); (focus (first | with_reducible rfl | (simp only [sZ]; done))); (focus (first | rfl | (simp; done)))) | ((with_reducible refine kc_set0 ?_ ?_); (focus (first | rfl | (simp; done)))) | with_reducible refine ct_drew ?_ | with_reducible refine ct_drewN _ ?_ | ((with_reducible refine ct_new ?_ ?_); (focus (first | with_reducible rfl | (simp only [sZ]; done))); (focus (first | rfl | (simp; done)))) | with_reducible refine ct_set _ _ ?_ | with_reducible refine ct_alloc _ ?_ | ((with_reducible refine kc_set ?_ ?_); (focus (first | (intro hx; injection hx; omega) | (simp; done)))) | with_reducible refine kc_alloc _ ?_ | ((with_reducible refine kf_new ?_ _); (focus (first | with_reducible rfl | (simp only [sZ]; done)))) | with_reducible refine kf_set _ _ ?_ | ((with_reducible refine kf_alloc _ ?_ ?_); (focus (first | (simp only [sZ]; omega) | (dsimp only; omega)))) | with_reducible refine bl_alloc ?_ _ | with_reducible refine bl_drew ?_ | with_reducible refine bl_drewN ?_ _ | ((with_reducible refine bl_set ?_ ?_ _); (focus (dsimp only; omega))) | with_reducible refine gro_alloc ?_ _ | with_reducible refine gro_drew ?_ | with_reducible refine gro_drewN ?_ _ | ((with_reducible refine gro_set ?_ ?_ _); (focus (first | omega | (dsimp only; omega))))))⟩
end Go.Proofs.Ytoenimkgagndnaa
