/- The search in gear.trains: the closure, and sort.Search over it. -/
import Derived.Test.YtmigddempeecoaaCmp
import Derived.Test.YtmigddempeecoaaSides
namespace Go.Proofs.Ytmigddempeecoaa
set_option linter.unusedVariables false
set_option linter.unusedSimpArgs false
open Go.RowKit Go.Shelf Go.Lib Go.Sort

/-- What the closure of the search reads. -/
structure Seen (W : World) (bw bp bt g cap : Nat) (d : Array Side) (x : Side) (tn td : Int) : Prop where
  wheels : W.cell? ⟨bw, 0, none⟩ = some (.slice (some ⟨g, 0, none⟩) d.size cap)
  pinion : box5 W bp x
  target : fAt W bt tn td
  row : HoldsK Side.enc 5 W g 0 d
theorem Seen.below {W W1 : World} {bw bp bt g cap : Nat} {d : Array Side} {x : Side} {tn td : Int} (h : Seen W bw bp bt g cap d x tn td) (hg : g < W.heap.size) (hb : Below W.heap.size W W1) : Seen W1 bw bp bt g cap d x tn td :=
  ⟨kc_below hb h.wheels, box5_map h.pinion fun _ _ hu => kc_below hb hu, ⟨kc_below hb h.target.1, kc_below hb h.target.2⟩, holdsK_below hb hg h.row⟩

/-- The ratio of a wheel's product and a pinion's product is above the target. -/
def aboveB (d : Array Side) (p tn td : Int) (i : Nat) : Bool := decide (0 < cmpF d[i]!.p p tn td)

set_option maxHeartbeats 1000000 in
set_option maxRecDepth 100000 in
theorem closure_any (bw bp bt g cap : Nat) (d : Array Side) (x : Side) (tn td : Int) (W : World) (h : Seen W bw bp bt g cap d x tn td) (i : Nat) (hi : i < d.size) (hd : d.size ≤ 1048576)
    (hp : ∀ j, j < d.size → 1 ≤ d[j]!.p ∧ d[j]!.p ≤ 8000000) (hx : 1 ≤ x.p) (hx' : x.p ≤ 8000000) (ht : -4611686018427387904 ≤ tn) (ht' : tn ≤ 4611686018427387904) (hu : 1 ≤ td) (hu' : td ≤ 4611686018427387904) :
    Calls Try.prog 107 #[.int .i64 i, .pointer (some ⟨bw, 0, none⟩), .pointer (some ⟨bp, 0, none⟩), .pointer (some ⟨bt, 0, none⟩)] W fun e w' => e = .returned (.bool (aboveB d x.p tn td i)) ∧ Gro W w' := by
  obtain ⟨hw, ⟨b0, b1, b2, b3, b4⟩, ⟨t0, t1⟩, hH⟩ := h
  obtain ⟨⟨c0, c1, c2, c3, c4⟩, _⟩ := cells5 hH hi
  obtain ⟨p1, p2⟩ := hp i hi
  have R := Lib.hid (show aboveB d x.p tn td i = decide (0 < cmpF d[i]!.p x.p tn td) from rfl)
  generalize aboveB d x.p tn td i = r at *
  generalize d[i]! = y at *
  clear hp hH
  have hin : (i : Int) < (d.size : Int) := by omega
  go_enter Try.func107, Try.ntmps107
  go_wp2
  refine still_tail 9 (by kernel_rfl) (by kernel_rfl) ?_
  simp only [List.take_succ_cons, List.take_zero, List.drop_succ_cons, List.drop_zero]
  iterate 9 still_step
  refine wpStill_nil ?_
  go_wp2_with fail
  refine (compare_any _ _ _ _ _ (by omega) (by omega) (by omega) (by omega) (by omega) (by omega) (by omega) (by omega)).mono ?_
  rintro e w1 ⟨rfl, hk⟩
  clear b0 b1 b2 b3 b4 t0 t1 c0 c1 c2 c3 c4 hw
  go_wp2_with fail
  go_ret
  exact ⟨ret_bool R.out.symm, gro_call (gro_drew (gro_refl _)) hk⟩
end Go.Proofs.Ytmigddempeecoaa
