/- The plain side of Exact: the sides of a search hold the best one of each product. -/
import Derived.Test.YtmigddempeecoaaTrP
namespace Go.Proofs.Ytmigddempeecoaa
set_option linter.unusedVariables false
set_option linter.unusedSimpArgs false
open Go.RowKit Go.Shelf Go.Lib Go.Sort

theorem keep_rep (d : Array Side) : ∀ i, ∃ j, j ≤ i ∧ keepAt d j = true ∧ d[j]!.p = d[i]!.p
  | 0 => ⟨0, Nat.le_refl _, by simp [keepAt], rfl⟩
  | i + 1 => by
    cases h : keepAt d (i + 1) with
    | true => exact ⟨i + 1, Nat.le_refl _, h, rfl⟩
    | false =>
      obtain ⟨j, h1, h2, h3⟩ := keep_rep d i
      refine ⟨j, by omega, h2, h3.trans ?_⟩
      unfold keepAt at h
      simp at h
      exact h.symm

theorem srt_get {l : List Side} {j : Nat} (hj : j < l.length) : (srt l).toArray[j]! = (srt l)[j]'(by rw [srt_len]; exact hj) := by
  rw [getElem!_pos _ j (by simp [srt_len]; exact hj)]; simp
theorem srt_mono {l : List Side} {i j : Nat} (h : i ≤ j) (hj : j < l.length) : (srt l).toArray[i]!.p ≤ (srt l).toArray[j]!.p := by
  rw [srt_get hj, srt_get (by omega)]
  rcases Nat.lt_or_ge i j with k | k
  · exact List.pairwise_iff_getElem.1 (srt_pair l) i j _ _ k
  · obtain rfl : i = j := by omega
    exact Int.le_refl _
theorem srt_ord (l : List Side) : (srt l).Pairwise fun x y => ltOf cmpS y x = false := by
  have h := List.pairwise_mergeSort (le := fun x y => !(ltOf cmpS) y x) (fun a b c h1 h2 => by
      simp only [Bool.not_eq_true'] at *
      exact swoS.ntrans c b a h2 h1) (fun a b => by
      simp only [Bool.or_eq_true, Bool.not_eq_true']
      cases e : ltOf cmpS b a with
      | false => exact .inl rfl
      | true =>
        refine .inr ?_
        cases e2 : ltOf cmpS a b with
        | false => rfl
        | true => exact absurd (swoS.trans a b a e2 e) (by rw [swoS.irrefl]; simp)) l
  exact h.imp fun {x y} hxy => by simpa using hxy
theorem srt_nlt {l : List Side} {i j : Nat} (h : i ≤ j) (hj : j < l.length) : ltOf cmpS (srt l).toArray[j]! (srt l).toArray[i]! = false := by
  rw [srt_get hj, srt_get (by omega)]
  rcases Nat.lt_or_ge i j with k | k
  · exact List.pairwise_iff_getElem.1 (srt_ord l) i j _ _ k
  · obtain rfl : i = j := by omega
    exact swoS.irrefl _

/-- Of every side there is one of the same product in the search that it is not before. -/
theorem sidesL_rep {low high : Int} {st : Nat} {r : Bool} {s : Side} (h : s ∈ gen low high r st) : ∃ x ∈ sidesL low high st r, x.p = s.p ∧ ltOf cmpS s x = false := by
  obtain ⟨i, hi, rfl⟩ := List.mem_iff_getElem.1 (srt_mem.2 h)
  have hi' : i < (gen low high r st).length := by rwa [srt_len] at hi
  obtain ⟨j, hj, hk, hp⟩ := keep_rep (srt (gen low high r st)).toArray i
  refine ⟨(srt (gen low high r st)).toArray[j]!, ?_, ?_, ?_⟩
  · unfold sidesL cmpL
    exact List.mem_map.2 ⟨j, List.mem_filter.2 ⟨List.mem_range.2 (by omega), hk⟩, rfl⟩
  · rw [hp, srt_get hi']
  · have := srt_nlt hj hi'
    rwa [srt_get hi'] at this

/-- The products of the sides of a search rise. -/
theorem sidesL_strict (low high : Int) (st : Nat) (r : Bool) : (sidesL low high st r).Pairwise fun x y => x.p < y.p := by
  unfold sidesL cmpL
  rw [List.pairwise_map, List.pairwise_filter]
  refine (List.pairwise_lt_range (n := (gen low high r st).length)).imp_of_mem fun {i j} _ hj hij _ hkj => ?_
  have hj' : j < (gen low high r st).length := List.mem_range.1 hj
  have h1 := srt_mono (l := gen low high r st) (show i ≤ j - 1 by omega) (by omega)
  have h2 := srt_mono (l := gen low high r st) (show j - 1 ≤ j by omega) hj'
  unfold keepAt at hkj
  simp at hkj
  have h3 : (srt (gen low high r st)).toArray[j]!.p ≠ (srt (gen low high r st)).toArray[j - 1]!.p := by
    rcases hkj with rfl | h
    · omega
    · simpa using h
  omega
end Go.Proofs.Ytmigddempeecoaa
