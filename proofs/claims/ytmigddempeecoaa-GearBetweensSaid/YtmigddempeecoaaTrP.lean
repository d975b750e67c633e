/- The plain side of gear.trains. -/
import Derived.Test.YtmigddempeecoaaSearch
namespace Go.Proofs.Ytmigddempeecoaa
set_option linter.unusedVariables false
set_option linter.unusedSimpArgs false
open Go.RowKit Go.Shelf Go.Lib Go.Sort

theorem srt_mem {l : List Side} {x : Side} : x ∈ srt l ↔ x ∈ l := List.mem_mergeSort

theorem srt_pair (l : List Side) : (srt l).Pairwise fun x y => x.p ≤ y.p := by
  have h := List.pairwise_mergeSort (le := fun x y => !(ltOf cmpS) y x) (fun a b c h1 h2 => by
      simp only [Bool.not_eq_true'] at *
      exact swoS.ntrans c b a h2 h1) (fun a b => by
      simp only [Bool.or_eq_true, Bool.not_eq_true']
      cases e : ltOf cmpS b a with
      | false => exact .inl rfl
      | true =>
        refine .inr ?_
        cases e2 : ltOf cmpS a b with
        | false => rfl
        | true => exact absurd (swoS.trans a b a e2 e) (by rw [swoS.irrefl]; simp)) l
  refine h.imp fun {x y} hxy => ?_
  simp only [Bool.not_eq_true'] at hxy
  unfold ltOf at hxy
  rw [decide_eq_false_iff_not, cmpS_lt] at hxy
  unfold Side.lt at hxy
  omega

theorem cmpL_sub (d : Array Side) : (cmpL d d.size).Sublist d.toList := by
  have h := (List.filter_sublist (l := List.range d.size) (p := keepAt d)).map (d[·]!)
  have e : (List.range d.size).map (d[·]!) = d.toList := by
    apply List.ext_getElem
    · simp
    · intro i h1 h2
      simp
      exact getElem!_pos d i (by simpa using h2)
  rw [e] at h
  exact h

theorem sidesL_sub (low high : Int) (st : Nat) (r : Bool) : (sidesL low high st r).Sublist (srt (gen low high r st)) := by
  have := cmpL_sub (srt (gen low high r st)).toArray
  simp only [List.size_toArray, srt_len] at this
  exact this

theorem sidesL_mem {low high : Int} {st : Nat} {r : Bool} {x : Side} (h : x ∈ sidesL low high st r) : x ∈ gen low high r st := srt_mem.1 ((sidesL_sub low high st r).subset h)
theorem sidesL_pair (low high : Int) (st : Nat) (r : Bool) : (sidesL low high st r).Pairwise fun x y => x.p ≤ y.p := (srt_pair _).sublist (sidesL_sub low high st r)
theorem sidesL_len {low high : Int} {st : Nat} {r : Bool} (h1 : 1 ≤ low) (h2 : low ≤ high) (h3 : high ≤ 200) (h4 : high - low < 64) (hst : st ≤ 3) : (sidesL low high st r).length ≤ 262144 := by
  have a := (sidesL_sub low high st r).length_le
  rw [srt_len] at a
  have b := (gen_len (r := r) h2 h1 h3 h4 st hst).1
  have : 64 ^ st ≤ 64 ^ 3 := Nat.pow_le_pow_right (by omega) hst
  omega
theorem sidesL_p {low high : Int} {st : Nat} {r : Bool} (h1 : 1 ≤ low) (h2 : low ≤ high) (h3 : high ≤ 200) (hst : st ≤ 3) {x : Side} (hx : x ∈ sidesL low high st r) : 1 ≤ x.p ∧ x.p ≤ 8000000 := by
  obtain ⟨_, g1, g2, _, _⟩ := gen_good h2 h1 h3 st hst x (sidesL_mem hx)
  rcases (show st = 0 ∨ st = 1 ∨ st = 2 ∨ st = 3 by omega) with rfl | rfl | rfl | rfl <;> simp at g2 <;> omega
theorem sidesL_mono {low high : Int} {st : Nat} {r : Bool} {a b : Nat} (hab : a ≤ b) (hb : b < (sidesL low high st r).length) : ((sidesL low high st r)[a]'(by omega)).p ≤ ((sidesL low high st r)[b]).p := by
  rcases Nat.lt_or_ge a b with h | h
  · exact List.pairwise_iff_getElem.1 (sidesL_pair low high st r) a b (by omega) hb h
  · obtain rfl : a = b := by omega
    exact Int.le_refl _

/-- A train of the search. -/
structure Tr where
  n : Int
  w : Side
  p : Side
deriving DecidableEq, Inhabited
def Tr.cells (t : Tr) : Array Value := #[.int .i64 t.n, .int .i64 t.w.a, .int .i64 t.w.b, .int .i64 t.w.c, .int .i64 t.w.p, .int .i64 t.w.s, .int .i64 t.p.a, .int .i64 t.p.b, .int .i64 t.p.c, .int .i64 t.p.p, .int .i64 t.p.s]
def Tr.val (t : Tr) : Value := .agg t.cells

/-- How many wheels' sides are not above the target. -/
def aboveN (ws : List Side) (p : Side) (tn td : Int) : Nat := (List.range ws.length).countP fun i => !aboveB ws.toArray p.p tn td i
def winLo (ws : List Side) (p : Side) (tn td : Int) : Nat := aboveN ws p tn td - 1
def winHi (ws : List Side) (p : Side) (tn td : Int) : Nat := min (aboveN ws p tn td + 1) ws.length
/-- The trains of one side of pinions: the first k of them. -/
def winTo (st : Nat) (ws : List Side) (p : Side) (tn td : Int) (k : Nat) : List Tr := (List.range k).map fun (i : Nat) => ⟨(st : Int), ws.toArray[winLo ws p tn td + i]!, p⟩
def win (st : Nat) (ws : List Side) (tn td : Int) (p : Side) : List Tr := winTo st ws p tn td (winHi ws p tn td - winLo ws p tn td)
def trainsTo (st : Nat) (ws ps : List Side) (tn td : Int) (j : Nat) : List Tr := (ps.take j).flatMap (win st ws tn td)
def trainsL (st : Nat) (ws ps : List Side) (tn td : Int) : List Tr := ps.flatMap (win st ws tn td)

theorem winTo_succ (st : Nat) (ws : List Side) (p : Side) (tn td : Int) (k : Nat) : winTo st ws p tn td (k + 1) = winTo st ws p tn td k ++ [⟨(st : Int), ws.toArray[winLo ws p tn td + k]!, p⟩] := by simp [winTo, List.range_succ]
theorem trainsTo_succ (st : Nat) (ws ps : List Side) (tn td : Int) (j : Nat) (hj : j < ps.length) : trainsTo st ws ps tn td (j + 1) = trainsTo st ws ps tn td j ++ win st ws tn td ps[j] := by
  unfold trainsTo
  rw [List.take_succ_eq_append_getElem hj, List.flatMap_append]
  simp
theorem trainsTo_end (st : Nat) (ws ps : List Side) (tn td : Int) : trainsTo st ws ps tn td ps.length = trainsL st ws ps tn td := by unfold trainsTo trainsL; rw [List.take_length]
theorem trainsTo_pre (st : Nat) (ws ps : List Side) (tn td : Int) (j : Nat) (hj : j < ps.length) (k : Nat) (hk : k ≤ winHi ws ps[j] tn td - winLo ws ps[j] tn td) : trainsTo st ws ps tn td j ++ winTo st ws ps[j] tn td k <+: trainsL st ws ps tn td := by
  have h1 : winTo st ws ps[j] tn td k <+: win st ws tn td ps[j] := by
    unfold win winTo
    obtain ⟨m, hm⟩ : ∃ m, winHi ws ps[j] tn td - winLo ws ps[j] tn td = k + m := ⟨_, (Nat.add_sub_cancel' hk).symm⟩
    rw [hm, List.range_add, List.map_append]
    exact List.prefix_append _ _
  have h2 : trainsTo st ws ps tn td (j + 1) <+: trainsL st ws ps tn td := by
    unfold trainsTo trainsL
    conv => rhs; rw [← List.take_append_drop (j + 1) ps, List.flatMap_append]
    exact List.prefix_append _ _
  rw [trainsTo_succ st ws ps tn td j hj] at h2
  obtain ⟨t, ht⟩ := h1
  obtain ⟨u, hu⟩ := h2
  exact ⟨t ++ u, by rw [← hu, ← ht]; simp⟩

theorem cmpF_mono {n n' d m e : Int} (hd : 1 ≤ d) (he : 1 ≤ e) (h : n ≤ n') (hc : 0 < cmpF n d m e) : 0 < cmpF n' d m e := by
  unfold cmpF at *
  have h1 : n * e ≤ n' * e := Int.mul_le_mul_of_nonneg_right h (by omega)
  have h2 := cmpZ_cases (n * e) (m * d)
  rw [cmpZ_gt (by omega)]
  omega

/-- The sides of a search are in order of their products. -/
structure Rows (l : List Side) : Prop where
  len : l.length ≤ 262144
  p : ∀ x ∈ l, 1 ≤ x.p ∧ x.p ≤ 8000000
  mono : ∀ a b, a ≤ b → (ha : a < l.length) → (hb : b < l.length) → l[a].p ≤ l[b].p
theorem rows_sides {low high : Int} {st : Nat} (r : Bool) (h1 : 1 ≤ low) (h2 : low ≤ high) (h3 : high ≤ 200) (h4 : high - low < 64) (hst : st ≤ 3) : Rows (sidesL low high st r) :=
  ⟨sidesL_len h1 h2 h3 h4 hst, fun _ hx => sidesL_p h1 h2 h3 hst hx, fun _ _ hab _ hb => sidesL_mono hab hb⟩
theorem Rows.above {ws : List Side} (h : Rows ws) {p : Int} (hp : 1 ≤ p) {tn td : Int} (hd : 1 ≤ td) : ∀ a b, a ≤ b → b < ws.length → aboveB ws.toArray p tn td a = true → aboveB ws.toArray p tn td b = true := by
  intro a b hab hb hc
  unfold aboveB at *
  rw [decide_eq_true_iff] at *
  have ea : ws.toArray[a]! = ws[a]'(by omega) := by rw [getElem!_pos _ a (by simp; omega)]; simp
  have eb : ws.toArray[b]! = ws[b] := by rw [getElem!_pos _ b (by simp; omega)]; simp
  rw [ea] at hc
  rw [eb]
  exact cmpF_mono hp hd (h.mono a b hab (by omega) hb) hc
theorem aboveN_le (ws : List Side) (p : Side) (tn td : Int) : aboveN ws p tn td ≤ ws.length := by
  unfold aboveN
  have := List.countP_le_length (p := fun i => !aboveB ws.toArray p.p tn td i) (l := List.range ws.length)
  simpa using this
end Go.Proofs.Ytmigddempeecoaa
