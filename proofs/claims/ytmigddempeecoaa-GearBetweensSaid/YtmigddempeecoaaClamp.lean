/- Trains in bounds: what the loop's body may know of a train that it is handed. -/
import Derived.Test.YtmigddempeecoaaPick
namespace Go.Proofs.Ytmigddempeecoaa
set_option linter.unusedVariables false
set_option linter.unusedSimpArgs false
open Go.RowKit Go.Shelf Go.Lib Go.Sort

instance (t : Tr) : Decidable (t.ok ∧ t.sok ∧ 1 ≤ t.n) := by unfold Tr.ok Tr.sok; infer_instance
def safeTr : Tr := ⟨1, ⟨0, 0, 0, 1, 0⟩, ⟨0, 0, 0, 1, 0⟩⟩
def clampT (t : Tr) : Tr := if t.ok ∧ t.sok ∧ 1 ≤ t.n then t else safeTr
theorem clamp_ok (t : Tr) : (clampT t).ok ∧ (clampT t).sok ∧ 1 ≤ (clampT t).n := by
  unfold clampT
  split
  · assumption
  · decide
theorem clamp_eq {t : Tr} (h : t.ok ∧ t.sok ∧ 1 ≤ t.n) : clampT t = t := if_pos h

theorem sidesL_s {low high : Int} {st : Nat} {r : Bool} (h1 : 1 ≤ low) (h2 : low ≤ high) (h3 : high ≤ 200) (hst : st ≤ 3) {x : Side} (hx : x ∈ sidesL low high st r) : 0 ≤ x.s ∧ x.s ≤ 600 := by
  obtain ⟨_, _, _, g3, g4⟩ := gen_good h2 h1 h3 st hst x (sidesL_mem hx)
  omega
theorem clamp_mem {wl wh pl ph : Int} {st : Nat} (w1 : 1 ≤ wl) (w2 : wl ≤ wh) (w3 : wh ≤ 200) (p1 : 1 ≤ pl) (p2 : pl ≤ ph) (p3 : ph ≤ 200) (hst : st ≤ 3) (hst1 : 1 ≤ st) (tn td : Int) :
    ∀ t ∈ trainsL st (sidesL wl wh st false) (sidesL pl ph st true) tn td, clampT t = t := fun t ht => by
  obtain ⟨hn, hw, hp⟩ := trains_sides ht
  exact clamp_eq ⟨⟨sidesL_p w1 w2 w3 hst hw, (sidesL_p p1 p2 p3 hst hp).1, (sidesL_p p1 p2 p3 hst hp).2⟩, ⟨sidesL_s w1 w2 w3 hst hw, (sidesL_s p1 p2 p3 hst hp).1, (sidesL_s p1 p2 p3 hst hp).2⟩, by omega⟩
theorem best_clamp (tn td : Int) (l : List Tr) : (bestE tn td (l.map clampT)).sok ∧ (bestE tn td (l.map clampT) = zeroTr ∨ 1 ≤ (bestE tn td (l.map clampT)).n) := by
  refine snoc_ind (P := fun l => (bestE tn td (l.map clampT)).sok ∧ (bestE tn td (l.map clampT) = zeroTr ∨ 1 ≤ (bestE tn td (l.map clampT)).n)) ?_ ?_ l
  · exact ⟨(show zeroTr.sok from ⟨by decide, by decide⟩), .inl rfl⟩
  · intro l t ih
    rw [List.map_append, List.map_singleton, bestE_snoc]
    unfold stepE
    split
    · exact ⟨(clamp_ok t).2.1, .inr (clamp_ok t).2.2⟩
    · exact ih
theorem map_clamp {l : List Tr} (h : ∀ t ∈ l, clampT t = t) : l.map clampT = l := by
  rw [List.map_congr_left h, List.map_id']
end Go.Proofs.Ytmigddempeecoaa
