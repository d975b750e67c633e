/- The plain side of Exact: what the search picks. -/
import Derived.Test.YtmigddempeecoaaBest
import Derived.Test.YtmigddempeecoaaBetter
namespace Go.Proofs.Ytmigddempeecoaa
set_option linter.unusedVariables false
set_option linter.unusedSimpArgs false
open Go.RowKit Go.Shelf Go.Lib Go.Sort

theorem bang_get {l : List Side} {i : Nat} (h : i < l.length) : l.toArray[i]! = l[i] := by
  rw [getElem!_pos _ i (by simpa using h)]; simp

theorem countP_le (n i : Nat) (h : i < n) (f : Nat → Bool) (hf : ∀ j, j < n → (f j = true ↔ j ≤ i)) : (List.range n).countP f = i + 1 := by
  have e : (List.range n).countP f = (List.range n).countP fun j => decide (j < i + 1) := by
    refine List.countP_congr fun j hj => ?_
    rw [hf j (List.mem_range.1 hj)]
    simp
    omega
  rw [e]
  clear e hf f
  induction n with
  | zero => omega
  | succ n ih =>
    rw [List.range_succ, List.countP_append]
    rcases Nat.lt_or_ge i n with k | k
    · rw [ih k]
      simp
      omega
    · obtain rfl : i = n := by omega
      have : (List.range i).countP (fun j => decide (j < i + 1)) = (List.range i).length := List.countP_eq_length.2 fun j hj => by
        have := List.mem_range.1 hj
        simp; omega
      rw [this]
      simp

theorem above_exact {ws : List Side} (hs : ws.Pairwise fun x y => x.p < y.p) (x : Side) {tn td : Int} (hd : 1 ≤ td) {i : Nat} (hi : i < ws.length) (he : ws[i].p * td = tn * x.p) : aboveN ws x tn td = i + 1 := by
  unfold aboveN
  refine countP_le _ i hi _ fun j hj => ?_
  unfold aboveB cmpF
  rw [bang_get hj, ← he]
  have h := cmpZ_cases (ws[j].p * td) (ws[i].p * td)
  rcases Nat.lt_trichotomy j i with k | k | k
  · have h1 := List.pairwise_iff_getElem.1 hs j i hj hi k
    have h2 := Int.mul_lt_mul_of_pos_right h1 (show 0 < td by omega)
    simp
    omega
  · subst k
    simp
    omega
  · have h1 := List.pairwise_iff_getElem.1 hs i j hi hj k
    have h2 := Int.mul_lt_mul_of_pos_right h1 (show 0 < td by omega)
    simp
    omega

/-- A train of the exact ratio is given out, if its sides are those of the search. -/
theorem trains_exact {st : Nat} {ws ps : List Side} (hs : ws.Pairwise fun x y => x.p < y.p) {tn td : Int} (hd : 1 ≤ td) {w x : Side} (hw : w ∈ ws) (hx : x ∈ ps) (he : w.p * td = tn * x.p) : (⟨(st : Int), w, x⟩ : Tr) ∈ trainsL st ws ps tn td := by
  obtain ⟨i, hi, rfl⟩ := List.mem_iff_getElem.1 hw
  have ha := above_exact hs x hd hi he
  unfold trainsL
  refine List.mem_flatMap.2 ⟨x, hx, ?_⟩
  unfold win winTo winLo winHi
  rw [ha]
  refine List.mem_map.2 ⟨0, List.mem_range.2 (by omega), ?_⟩
  have := bang_get hi
  simp only [Nat.add_sub_cancel, Nat.add_zero]
  rw [this]

theorem trains_sides {st : Nat} {ws ps : List Side} {tn td : Int} {t : Tr} (h : t ∈ trainsL st ws ps tn td) : t.n = st ∧ t.w ∈ ws ∧ t.p ∈ ps := by
  unfold trainsL at h
  obtain ⟨x, hx, h⟩ := List.mem_flatMap.1 h
  unfold win winTo at h
  obtain ⟨k, hk, rfl⟩ := List.mem_map.1 h
  have hk' := List.mem_range.1 hk
  have hl : winLo ws x tn td + k < ws.length := by unfold winHi at hk'; omega
  refine ⟨rfl, ?_, hx⟩
  show ws.toArray[_]! ∈ ws
  rw [bang_get hl]
  exact List.getElem_mem hl

/-- The train's ratio is the target. -/
def isR (tn td : Int) (t : Tr) : Bool := quoN t.w.p t.p.p == tn && quoD t.w.p t.p.p == td
def stepE (tn td : Int) (b t : Tr) : Tr := if (isR tn td t && (b.n == 0 || betF t b)) = true then t else b
def zeroTr : Tr := ⟨0, ⟨0, 0, 0, 0, 0⟩, ⟨0, 0, 0, 0, 0⟩⟩
def bestE (tn td : Int) (l : List Tr) : Tr := l.foldl (stepE tn td) zeroTr
theorem bestE_snoc (tn td : Int) (l : List Tr) (t : Tr) : bestE tn td (l ++ [t]) = stepE tn td (bestE tn td l) t := by simp [bestE]

/-- The order of trains. -/
def Tr.lt (t u : Tr) : Prop := t.n < u.n ∨ (t.n = u.n ∧ (t.w.s + t.p.s < u.w.s + u.p.s ∨ (t.w.s + t.p.s = u.w.s + u.p.s ∧
  (t.w.a < u.w.a ∨ (t.w.a = u.w.a ∧ (t.w.b < u.w.b ∨ (t.w.b = u.w.b ∧ (t.w.c < u.w.c ∨ (t.w.c = u.w.c ∧
  (t.p.a < u.p.a ∨ (t.p.a = u.p.a ∧ (t.p.b < u.p.b ∨ (t.p.b = u.p.b ∧ t.p.c < u.p.c)))))))))))))
theorem lex3_lt (a b c a' b' c' : Int) : lex3 a b c a' b' c' < 0 ↔ (a < a' ∨ (a = a' ∧ (b < b' ∨ (b = b' ∧ c < c')))) := by
  unfold lex3
  have h1 := cmpZ_cases a a'
  have h2 := cmpZ_cases b b'
  have h3 := cmpZ_cases c c'
  split
  · omega
  · split <;> omega
theorem lex3_ne (a b c a' b' c' : Int) : lex3 a b c a' b' c' ≠ 0 ↔ (a ≠ a' ∨ b ≠ b' ∨ c ≠ c') := by
  unfold lex3
  have h1 := cmpZ_cases a a'
  have h2 := cmpZ_cases b b'
  have h3 := cmpZ_cases c c'
  split
  · omega
  · split <;> omega
theorem betF_iff (t u : Tr) : betF t u = true ↔ t.lt u := by
  unfold betF Tr.lt
  have h1 := lex3_lt t.w.a t.w.b t.w.c u.w.a u.w.b u.w.c
  have h2 := lex3_ne t.w.a t.w.b t.w.c u.w.a u.w.b u.w.c
  have h3 := lex3_lt t.p.a t.p.b t.p.c u.p.a u.p.b u.p.c
  split
  · rw [decide_eq_true_iff]; omega
  · split
    · rw [decide_eq_true_iff]; omega
    · split
      · rename_i h; rw [decide_eq_true_iff, h1]; rw [h2] at h; omega
      · rename_i h; rw [decide_eq_true_iff, h3]; rw [h2] at h; omega

theorem snoc_ind {α : Type} {P : List α → Prop} (h0 : P []) (h1 : ∀ l t, P l → P (l ++ [t])) (l : List α) : P l := by
  have h : ∀ m : List α, P m.reverse := fun m => by
    induction m with
    | nil => exact h0
    | cons a m ih => rw [List.reverse_cons]; exact h1 _ _ ih
  have := h l.reverse
  rwa [List.reverse_reverse] at this

/-- What the search has picked out of a list of trains. -/
def Pick (tn td : Int) (l : List Tr) (b : Tr) : Prop :=
  (b.n = 0 ∧ b = zeroTr ∧ ∀ t ∈ l, isR tn td t = false) ∨ (1 ≤ b.n ∧ b ∈ l ∧ isR tn td b = true ∧ ∀ t ∈ l, isR tn td t = true → betF t b = false)
theorem bestE_spec (tn td : Int) (l : List Tr) (hn : ∀ t ∈ l, 1 ≤ t.n) : Pick tn td l (bestE tn td l) := by
  revert hn
  refine snoc_ind (P := fun l => (∀ t ∈ l, 1 ≤ t.n) → Pick tn td l (bestE tn td l)) ?_ ?_ l
  · exact fun _ => .inl ⟨rfl, rfl, fun t ht => by cases ht⟩
  · intro l t ih hn
    have ih := ih fun t ht => hn t (List.mem_append_left _ ht)
    have h1 := hn t (by simp)
    rw [bestE_snoc]
    unfold stepE
    rcases ih with ⟨i0, iz, i1⟩ | ⟨i0, i1, i2, i3⟩
    · cases hr : isR tn td t
      · simp only [Bool.false_and, Bool.false_eq_true, if_false]
        refine .inl ⟨i0, iz, fun u hu => ?_⟩
        rcases List.mem_append.1 hu with h | h
        · exact i1 u h
        · rw [List.mem_singleton.1 h]; exact hr
      · have hb : ((bestE tn td l).n == 0) = true := by simpa using i0
        simp only [hb, Bool.true_and, Bool.true_or, if_true]
        refine .inr ⟨h1, by simp, hr, fun u hu hur => ?_⟩
        rcases List.mem_append.1 hu with h | h
        · rw [i1 u h] at hur; cases hur
        · rw [List.mem_singleton.1 h]
          cases hbt : betF t t with
          | false => rfl
          | true => rw [betF_iff] at hbt; unfold Tr.lt at hbt; omega
    · have hb : ((bestE tn td l).n == 0) = false := by simp; omega
      simp only [hb, Bool.false_or]
      cases hr : isR tn td t
      · simp only [Bool.false_and, Bool.false_eq_true, if_false]
        refine .inr ⟨i0, List.mem_append_left _ i1, i2, fun u hu hur => ?_⟩
        rcases List.mem_append.1 hu with h | h
        · exact i3 u h hur
        · rw [List.mem_singleton.1 h, hr] at hur; cases hur
      · cases hbt : betF t (bestE tn td l)
        · simp only [Bool.true_and, Bool.false_eq_true, if_false]
          refine .inr ⟨i0, List.mem_append_left _ i1, i2, fun u hu hur => ?_⟩
          rcases List.mem_append.1 hu with h | h
          · exact i3 u h hur
          · rw [List.mem_singleton.1 h]; exact hbt
        · simp only [Bool.true_and, if_true]
          refine .inr ⟨h1, by simp, hr, fun u hu hur => ?_⟩
          rw [betF_iff] at hbt
          cases hut : betF u t with
          | false => rfl
          | true =>
            rw [betF_iff] at hut
            rcases List.mem_append.1 hu with h | h
            · have := i3 u h hur
              have h2 : betF u (bestE tn td l) = true := by rw [betF_iff]; unfold Tr.lt at *; omega
              rw [h2] at this; cases this
            · rw [List.mem_singleton.1 h] at hut; unfold Tr.lt at hut; omega
end Go.Proofs.Ytmigddempeecoaa
