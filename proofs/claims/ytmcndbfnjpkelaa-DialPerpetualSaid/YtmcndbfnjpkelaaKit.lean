/- Small facts on worlds: what a cell, a mark holds behind new blocks, stores, draws and calls. -/
import Derived.WalkKit
import Derived.WalkSpells
import Derived.WalkLawsBesides
import Derived.WalkSmall
import Derived.Lib.Hide
import Derived.Deep.RegionHeld3
import Derived.BigQuiet
import Derived.Deep.QuietTactic
import Derived.Sort.Grow
namespace Go.Proofs.Ytmcndbfnjpkelaa
set_option linter.unusedVariables false
set_option linter.unusedSimpArgs false
open Go.RowKit

theorem size_drewN (w : World) (n : Nat) : (w.drewN n).heap.size = w.heap.size := rfl

/-- There is a cell. -/
def there (w : World) (a : Addr) : Prop := ∃ u, w.cell? a = some u

section
variable {w W w1 : World} {a p : Addr} {v u : Value}
theorem kc_drew (h : w.cell? a = some v) : w.drew.cell? a = some v := h
theorem kc_drewN (n : Nat) (h : w.cell? a = some v) : (w.drewN n).cell? a = some v := h
theorem kc_below (hb : Below W.heap.size W w1) (h : W.cell? a = some v) : w1.cell? a = some v := (hb.cell (World.block_lt_of_cell? W a h)).trans h
theorem kc_alloc (o : Obj) (h : w.cell? a = some v) : (w.alloc o).cell? a = some v := (World.cell?_alloc_lt _ _ _ (World.block_lt_of_cell? w a h)).trans h
theorem kc_new {cs : Array Value} {t : TypeId} {b i : Nat} (hs : w.heap.size = b) (h : cs[i]? = some v) : (w.alloc (.cells cs t)).cell? ⟨b, i, none⟩ = some v := by
  subst hs
  rw [← h]
  unfold World.cell?
  rw [heap_alloc_new]
  simp
theorem kc_set0 (hu : u = v) (h : there w a) : (w.setCell a u).cell? a = some v := by
  subst hu
  obtain ⟨u0, h⟩ := h
  exact World.cell?_setCell_same' _ _ _ (by rw [h]; rfl)
theorem ct_of (h : w.cell? a = some v) : there w a := ⟨v, h⟩
theorem ct_drew (h : there w a) : there w.drew a := h
theorem ct_drewN (n : Nat) (h : there w a) : there (w.drewN n) a := h
theorem ct_below (hb : Below W.heap.size W w1) (h : there W a) : there w1 a := h.elim fun u h => ⟨u, kc_below hb h⟩
theorem ct_alloc (o : Obj) (h : there w a) : there (w.alloc o) a := h.elim fun u h => ⟨u, kc_alloc o h⟩
theorem ct_new {cs : Array Value} {t : TypeId} {b i : Nat} (hs : w.heap.size = b) (h : (cs[i]?).isSome = true) : there (w.alloc (.cells cs t)) ⟨b, i, none⟩ := by
  obtain ⟨v, hv⟩ := Option.isSome_iff_exists.1 h
  exact ⟨v, kc_new hs hv⟩
theorem ct_set (p : Addr) (u : Value) (h : there w a) : there (w.setCell p u) a := by
  obtain ⟨v, h⟩ := h
  by_cases e : p = a
  · subst e
    exact ⟨u, kc_set0 rfl ⟨v, h⟩⟩
  · exact ⟨v, (World.cell?_setCell_other w p a u e).trans h⟩
theorem kc_set (hp : p ≠ a) (h : w.cell? a = some v) : (w.setCell p u).cell? a = some v := (World.cell?_setCell_other w p a u hp).trans h
theorem kf_drew {b : Bool} (h : w.frozen? a = b) : w.drew.frozen? a = b := h
theorem kf_drewN {b : Bool} (n : Nat) (h : w.frozen? a = b) : (w.drewN n).frozen? a = b := h
theorem kf_below {b : Bool} (hb : Below W.heap.size W w1) (hl : a.block < W.heap.size) (h : W.frozen? a = b) : w1.frozen? a = b := (hb.frozen hl).trans h
theorem kf_alloc {b : Bool} (o : Obj) (hl : a.block < w.heap.size) (h : w.frozen? a = b) : (w.alloc o).frozen? a = b := by
  rw [← h]
  exact World.frozen?_of_block (Below.heap_alloc w o a.block hl)
theorem kf_new {cs : Array Value} {t : TypeId} {b : Nat} (hs : w.heap.size = b) (i : Nat) : (w.alloc (.cells cs t)).frozen? ⟨b, i, none⟩ = false := by
  subst hs
  exact World.frozen?_alloc_new w cs t i
theorem kf_set {b : Bool} (p : Addr) (u : Value) (h : w.frozen? a = b) : (w.setCell p u).frozen? a = b := by rw [World.frozen?_setCell]; exact h
theorem bl_alloc (h : Below w.heap.size w W) (o : Obj) : Below w.heap.size w (W.alloc o) := h.alloc h.size o
theorem bl_drew (h : Below w.heap.size w W) : Below w.heap.size w W.drew := h.drew
theorem bl_drewN (h : Below w.heap.size w W) (n : Nat) : Below w.heap.size w (W.drewN n) := below_drewN h n
theorem bl_set (hp : w.heap.size ≤ p.block) (h : Below w.heap.size w W) (u : Value) : Below w.heap.size w (W.setCell p u) := h.setCell hp u
theorem bl_call (h : Below w.heap.size w W) (hb : Below W.heap.size W w1) : Below w.heap.size w w1 := h.trans (hb.mono h.size)
end

/-! ### A world that has only grown: draws, and new blocks behind -/
def Gro (w w' : World) : Prop := ∃ (q : Nat) (os : Array Obj), w' = Go.Sort.grow (w.drewN q) os
section
variable {w W w1 : World}
theorem gro_refl (w : World) : Gro w w := ⟨0, #[], by rw [Go.Sort.grow_empty]; rfl⟩
theorem gro_alloc (h : Gro w W) (o : Obj) : Gro w (W.alloc o) := by
  obtain ⟨q, os, rfl⟩ := h
  exact ⟨q, os ++ #[o], by rw [Go.Sort.alloc_eq_grow, Go.Sort.grow_grow]⟩
theorem gro_drewN (h : Gro w W) (n : Nat) : Gro w (W.drewN n) := by
  obtain ⟨q, os, rfl⟩ := h
  refine ⟨q + n, os, ?_⟩
  rw [← World.drewN_drewN]
  rfl
theorem gro_drew (h : Gro w W) : Gro w W.drew := gro_drewN h 1
theorem gro_call (h : Gro w W) (k : Gro W w1) : Gro w w1 := by
  obtain ⟨q, os, rfl⟩ := h
  obtain ⟨q', os', rfl⟩ := k
  refine ⟨q + q', os ++ os', ?_⟩
  rw [← Go.Sort.grow_grow, ← World.drewN_drewN]
  rfl
theorem gro_set {b o : Nat} (hp : w.heap.size ≤ b) (h : Gro w W) (u : Value) : Gro w (W.setCell ⟨b, o, none⟩ u) := by
  obtain ⟨q, os, rfl⟩ := h
  exact ⟨q, _, (Go.Sort.setCell_eq _ _ _ _).trans (Go.Sort.mapBlock_grow_new (w.drewN q) os b _ hp)⟩
theorem Gro.below (h : Gro w W) : Below w.heap.size w W := by
  obtain ⟨q, os, rfl⟩ := h
  exact ⟨rfl, rfl, rfl, by simp [Go.Sort.grow, World.drewN], fun k hk => Go.Sort.heap_grow_old (w.drewN q) os hk⟩
theorem gro_id (h : w = W) : Gro w W := h ▸ gro_refl w
end

theorem bcell {W w1 : World} (hb : Below W.heap.size W w1) : (∀ b o, b < W.heap.size → w1.cell? ⟨b, o, none⟩ = W.cell? ⟨b, o, none⟩) ∧ (∀ b o, b < W.heap.size → w1.frozen? ⟨b, o, none⟩ = W.frozen? ⟨b, o, none⟩) :=
  ⟨fun b o h => hb.cell (p := ⟨b, o, none⟩) h, fun b o h => hb.frozen (p := ⟨b, o, none⟩) h⟩

/-- A callee that leaves the world alone, met inside a quiet region. -/
theorem qt_same {P : Program} {f : FuncId} {args : Array Value} {w : World} {n : Nat} {v : Value}
    (h : Calls P f args (w.drewN n) fun e w' => e = .returned v ∧ w.drewN n = w') : Calls P f args (w.drewN n) fun e w'' => e = .returned v ∧ ∃ m, w'' = w.drewN m :=
  h.mono fun _ _ ⟨he, hm⟩ => ⟨he, n, hm.symm⟩

end Go.Proofs.Ytmcndbfnjpkelaa
