/- Texts of one proof, joined: Kit, Shelf, Num, Frac, Cmp, Make, Side, Row, GenP, Compact. -/
import Derived.WalkKit
import Derived.WalkSpells
import Derived.WalkLawsBesides
import Derived.WalkSmall
import Derived.Lib.Hide
import Derived.Deep.RegionHeld3
import Derived.BigQuiet
import Derived.Deep.QuietTactic
import Derived.Sort.Grow
import Derived.Shelf.Small.Bits
import Derived.Shelf.Small.Wraps
import Derived.Shelf.Strconv.Itoa0
import Derived.Shelf.Bits.Mul64
import Derived.Ground.Names2Prog
import Derived.Shelf.Slices.Clone
import Derived.Shelf.Slices.SearchI
import Derived.Shelf.SlGeneric
import Derived.Shelf.SlSortCmp.WholeK
import Derived.Shelf.SlSortCmp.NoneTotal
import Derived.Ground.SlsfProg
import Derived.Shelf.SlSorted.Search
import Derived.Ground.SlsoProg
import Derived.Test.YtoenimkgagndnaaProg
import Derived.PlainAid
import Derived.StillTailTactics
import Derived.Deep.DeepFit
import Derived.Laws.ResultCell
import Derived.Deep.DeepCutAuto
import Derived.RegionCalls
import Derived.Deep.RegionWith
import Derived.Lib.SliceRun
import Derived.Lib.SlBuf
import Derived.Deep.LoopGhost
/- Small facts on worlds: what a cell, a mark holds behind new blocks, stores, draws and calls. -/
namespace Go.Proofs.Ytoenimkgagndnaa
set_option linter.unusedVariables false
set_option linter.unusedSimpArgs false
open Go.RowKit

theorem size_drewN (w : World) (n : Nat) : (w.drewN n).heap.size = w.heap.size := rfl

/-- There is a cell. -/
def there (w : World) (a : Addr) : Prop := ∃ u, w.cell? a = some u

section
variable {w W w1 : World} {a p : Addr} {v u : Value}
theorem kc_drew (h : w.cell? a = some v) : w.drew.cell? a = some v := h
theorem kc_drewN (n : Nat) (h : w.cell? a = some v) : (w.drewN n).cell? a = some v := h
theorem kc_below (hb : Below W.heap.size W w1) (h : W.cell? a = some v) : w1.cell? a = some v := (hb.cell (World.block_lt_of_cell? W a h)).trans h
theorem kc_alloc (o : Obj) (h : w.cell? a = some v) : (w.alloc o).cell? a = some v := (World.cell?_alloc_lt _ _ _ (World.block_lt_of_cell? w a h)).trans h
theorem kc_new {cs : Array Value} {t : TypeId} {b i : Nat} (hs : w.heap.size = b) (h : cs[i]? = some v) : (w.alloc (.cells cs t)).cell? ⟨b, i, none⟩ = some v := by
  subst hs
  rw [← h]
  unfold World.cell?
  rw [heap_alloc_new]
  simp
theorem kc_set0 (hu : u = v) (h : there w a) : (w.setCell a u).cell? a = some v := by
  subst hu
  obtain ⟨u0, h⟩ := h
  exact World.cell?_setCell_same' _ _ _ (by rw [h]; rfl)
theorem ct_of (h : w.cell? a = some v) : there w a := ⟨v, h⟩
theorem ct_drew (h : there w a) : there w.drew a := h
theorem ct_drewN (n : Nat) (h : there w a) : there (w.drewN n) a := h
theorem ct_below (hb : Below W.heap.size W w1) (h : there W a) : there w1 a := h.elim fun u h => ⟨u, kc_below hb h⟩
theorem ct_alloc (o : Obj) (h : there w a) : there (w.alloc o) a := h.elim fun u h => ⟨u, kc_alloc o h⟩
theorem ct_new {cs : Array Value} {t : TypeId} {b i : Nat} (hs : w.heap.size = b) (h : (cs[i]?).isSome = true) : there (w.alloc (.cells cs t)) ⟨b, i, none⟩ := by
  obtain ⟨v, hv⟩ := Option.isSome_iff_exists.1 h
  exact ⟨v, kc_new hs hv⟩
theorem ct_set (p : Addr) (u : Value) (h : there w a) : there (w.setCell p u) a := by
  obtain ⟨v, h⟩ := h
  by_cases e : p = a
  · subst e
    exact ⟨u, kc_set0 rfl ⟨v, h⟩⟩
  · exact ⟨v, (World.cell?_setCell_other w p a u e).trans h⟩
theorem kc_set (hp : p ≠ a) (h : w.cell? a = some v) : (w.setCell p u).cell? a = some v := (World.cell?_setCell_other w p a u hp).trans h
theorem kf_drew {b : Bool} (h : w.frozen? a = b) : w.drew.frozen? a = b := h
theorem kf_drewN {b : Bool} (n : Nat) (h : w.frozen? a = b) : (w.drewN n).frozen? a = b := h
theorem kf_below {b : Bool} (hb : Below W.heap.size W w1) (hl : a.block < W.heap.size) (h : W.frozen? a = b) : w1.frozen? a = b := (hb.frozen hl).trans h
theorem kf_alloc {b : Bool} (o : Obj) (hl : a.block < w.heap.size) (h : w.frozen? a = b) : (w.alloc o).frozen? a = b := by
  rw [← h]
  exact World.frozen?_of_block (Below.heap_alloc w o a.block hl)
theorem kf_new {cs : Array Value} {t : TypeId} {b : Nat} (hs : w.heap.size = b) (i : Nat) : (w.alloc (.cells cs t)).frozen? ⟨b, i, none⟩ = false := by
  subst hs
  exact World.frozen?_alloc_new w cs t i
theorem kf_set {b : Bool} (p : Addr) (u : Value) (h : w.frozen? a = b) : (w.setCell p u).frozen? a = b := by rw [World.frozen?_setCell]; exact h
theorem bl_alloc (h : Below w.heap.size w W) (o : Obj) : Below w.heap.size w (W.alloc o) := h.alloc h.size o
theorem bl_drew (h : Below w.heap.size w W) : Below w.heap.size w W.drew := h.drew
theorem bl_drewN (h : Below w.heap.size w W) (n : Nat) : Below w.heap.size w (W.drewN n) := below_drewN h n
theorem bl_set (hp : w.heap.size ≤ p.block) (h : Below w.heap.size w W) (u : Value) : Below w.heap.size w (W.setCell p u) := h.setCell hp u
theorem bl_call (h : Below w.heap.size w W) (hb : Below W.heap.size W w1) : Below w.heap.size w w1 := h.trans (hb.mono h.size)
end

/-! ### A world that has only grown: draws, and new blocks behind -/
def Gro (w w' : World) : Prop := ∃ (q : Nat) (os : Array Obj), w' = Go.Sort.grow (w.drewN q) os
section
variable {w W w1 : World}
theorem gro_refl (w : World) : Gro w w := ⟨0, #[], by rw [Go.Sort.grow_empty]; rfl⟩
theorem gro_alloc (h : Gro w W) (o : Obj) : Gro w (W.alloc o) := by
  obtain ⟨q, os, rfl⟩ := h
  exact ⟨q, os ++ #[o], by rw [Go.Sort.alloc_eq_grow, Go.Sort.grow_grow]⟩
theorem gro_drewN (h : Gro w W) (n : Nat) : Gro w (W.drewN n) := by
  obtain ⟨q, os, rfl⟩ := h
  refine ⟨q + n, os, ?_⟩
  rw [← World.drewN_drewN]
  rfl
theorem gro_drew (h : Gro w W) : Gro w W.drew := gro_drewN h 1
theorem gro_call (h : Gro w W) (k : Gro W w1) : Gro w w1 := by
  obtain ⟨q, os, rfl⟩ := h
  obtain ⟨q', os', rfl⟩ := k
  refine ⟨q + q', os ++ os', ?_⟩
  rw [← Go.Sort.grow_grow, ← World.drewN_drewN]
  rfl
theorem gro_set {b o : Nat} (hp : w.heap.size ≤ b) (h : Gro w W) (u : Value) : Gro w (W.setCell ⟨b, o, none⟩ u) := by
  obtain ⟨q, os, rfl⟩ := h
  exact ⟨q, _, (Go.Sort.setCell_eq _ _ _ _).trans (Go.Sort.mapBlock_grow_new (w.drewN q) os b _ hp)⟩
theorem Gro.below (h : Gro w W) : Below w.heap.size w W := by
  obtain ⟨q, os, rfl⟩ := h
  exact ⟨rfl, rfl, rfl, by simp [Go.Sort.grow, World.drewN], fun k hk => Go.Sort.heap_grow_old (w.drewN q) os hk⟩
theorem gro_id (h : w = W) : Gro w W := h ▸ gro_refl w
end

theorem bcell {W w1 : World} (hb : Below W.heap.size W w1) : (∀ b o, b < W.heap.size → w1.cell? ⟨b, o, none⟩ = W.cell? ⟨b, o, none⟩) ∧ (∀ b o, b < W.heap.size → w1.frozen? ⟨b, o, none⟩ = W.frozen? ⟨b, o, none⟩) :=
  ⟨fun b o h => hb.cell (p := ⟨b, o, none⟩) h, fun b o h => hb.frozen (p := ⟨b, o, none⟩) h⟩

/-- A callee that leaves the world alone, met inside a quiet region. -/
theorem qt_same {P : Program} {f : FuncId} {args : Array Value} {w : World} {n : Nat} {v : Value}
    (h : Calls P f args (w.drewN n) fun e w' => e = .returned v ∧ w.drewN n = w') : Calls P f args (w.drewN n) fun e w'' => e = .returned v ∧ ∃ m, w'' = w.drewN m :=
  h.mono fun _ _ ⟨he, hm⟩ => ⟨he, n, hm.symm⟩

end Go.Proofs.Ytoenimkgagndnaa

/-
  DERIVED: THE SHELF's CONTRACTS AT THIS DUMP, IN PLAIN WORDS (tools/lay-plain.mjs out of 'TryShelf.lean', which tools/lay-shelf.mjs wrote): THE SAME DECLARATIONS UNDER THE SAME NAMES: 'import', 'namespace', 'open', 'def', 'theorem' AND NOTHING ELSE: no command of the shelf's: FOR A HAND-IN. Each laying: the table of numbers ('.._ren') and one theorem, a field a fact of the dump's own or the kernel's comparison; each contract: ONE APPLICATION.
-/
namespace Go.Proofs
open Go.Shelf
def Try.lays128_ren : Go.Shelf.Ren := ⟨fun | 128 => 139 | n => n, fun | 51 => 157 | 3 => 3 | 4 => 4 | 46 => 142 | 5 => 5 | 9 => 9 | n => n, fun | n => n⟩
theorem Try.lays128 : Go.Proofs.Lays.n128 Try.prog Try.lays128_ren := {
  mixed := by kernel_rfl
  f128 := Try.func139.trans (congrArg some (by kernel_rfl))
  t3 := Try.underlying3
  a3 := Try.isAgg3
  z3 := Try.sizeOf3
  v3 := Try.zeroValue3
  t4 := Try.underlying4
  a4 := Try.isAgg4
  z4 := Try.sizeOf4
  v4 := Try.zeroValue4
  t5 := Try.underlying5
  a5 := Try.isAgg5
  z5 := Try.sizeOf5
  v5 := Try.zeroValue5
  t9 := Try.underlying9
  a9 := Try.isAgg9
  z9 := Try.sizeOf9
  v9 := Try.zeroValue9
  t46 := Try.underlying142
  a46 := Try.isAgg142
  z46 := Try.sizeOf142
  v46 := Try.zeroValue142
  t51 := Try.underlying157
  a51 := Try.isAgg157
  z51 := Try.sizeOf157
  v51 := Try.zeroValue157 }
/-- bits.Len32: "Len32 returns the minimum number of bits required to represent x; the result is 0 for x == 0.": IT RETURNS 'Lib.bitLen x'; the world is as it was. ('h0', 'h1': x is a uint32.) (LAID: no walk: one application.) -/
theorem Try.bits_Len32 (x : Int) (w : World) (h0 : 0 ≤ x) (h1 : x ≤ 4294967295) :
    Calls Try.prog 139 #[.int .u32 x] w fun e w' => e = .returned (.int .i64 (Lib.bitLen x.toNat)) ∧ w' = w := Any.bits_Len32 Try.lays128 x w h0 h1
def Try.lays125_ren : Go.Shelf.Ren := ⟨fun | 125 => 129 | 128 => 139 | 129 => 130 | n => n, fun | 46 => 142 | 3 => 3 | 51 => 157 | 53 => 77 | 4 => 4 | 5 => 5 | 9 => 9 | n => n, fun | n => n⟩
theorem Try.lays125 : Go.Proofs.Lays.n125 Try.prog Try.lays125_ren := {
  mixed := by kernel_rfl
  f125 := Try.func129.trans (congrArg some (by kernel_rfl))
  f128 := Try.func139.trans (congrArg some (by kernel_rfl))
  f129 := Try.func130.trans (congrArg some (by kernel_rfl))
  t3 := Try.underlying3
  a3 := Try.isAgg3
  z3 := Try.sizeOf3
  v3 := Try.zeroValue3
  t4 := Try.underlying4
  a4 := Try.isAgg4
  z4 := Try.sizeOf4
  v4 := Try.zeroValue4
  t5 := Try.underlying5
  a5 := Try.isAgg5
  z5 := Try.sizeOf5
  v5 := Try.zeroValue5
  t9 := Try.underlying9
  a9 := Try.isAgg9
  z9 := Try.sizeOf9
  v9 := Try.zeroValue9
  t46 := Try.underlying142
  a46 := Try.isAgg142
  z46 := Try.sizeOf142
  v46 := Try.zeroValue142
  t51 := Try.underlying157
  a51 := Try.isAgg157
  z51 := Try.sizeOf157
  v51 := Try.zeroValue157
  t53 := Try.underlying77
  a53 := Try.isAgg77
  z53 := Try.sizeOf77
  v53 := Try.zeroValue77 }
/-- bits.Len: "Len returns the minimum number of bits required to represent x; the result is 0 for x == 0.": IT RETURNS 'Lib.bitLen x'; the world is as it was. (A uint has 64 bits in the model.) ITS CALLEE bits.Len64 IS MET BY ITS OWN CONTRACT OFF THE SHELF (lay that first). (LAID: no walk: one application.) -/
theorem Try.bits_Len (x : Int) (w : World) (h0 : 0 ≤ x) (h1 : x ≤ 18446744073709551615) :
    Calls Try.prog 129 #[.int .u64 x] w fun e w' => e = .returned (.int .i64 (Lib.bitLen x.toNat)) ∧ w' = w := Any.bits_Len Try.lays125 x w h0 h1
def Try.lays134_ren : Go.Shelf.Ren := ⟨fun | 134 => 127 | 129 => 130 | n => n, fun | 53 => 77 | 3 => 3 | 4 => 4 | 46 => 142 | 5 => 5 | 9 => 9 | n => n, fun | n => n⟩
theorem Try.lays134 : Go.Proofs.Lays.n134 Try.prog Try.lays134_ren := {
  mixed := by kernel_rfl
  f129 := Try.func130.trans (congrArg some (by kernel_rfl))
  f134 := Try.func127.trans (congrArg some (by kernel_rfl))
  t3 := Try.underlying3
  a3 := Try.isAgg3
  z3 := Try.sizeOf3
  v3 := Try.zeroValue3
  t4 := Try.underlying4
  a4 := Try.isAgg4
  z4 := Try.sizeOf4
  v4 := Try.zeroValue4
  t5 := Try.underlying5
  a5 := Try.isAgg5
  z5 := Try.sizeOf5
  v5 := Try.zeroValue5
  t9 := Try.underlying9
  a9 := Try.isAgg9
  z9 := Try.sizeOf9
  v9 := Try.zeroValue9
  t46 := Try.underlying142
  a46 := Try.isAgg142
  z46 := Try.sizeOf142
  v46 := Try.zeroValue142
  t53 := Try.underlying77
  a53 := Try.isAgg77
  z53 := Try.sizeOf77
  v53 := Try.zeroValue77 }
/-- bits.LeadingZeros64: "LeadingZeros64 returns the number of leading zero bits in x; the result is 64 for x == 0.": IT RETURNS '64 - Lib.bitLen x'; the world is as it was. ITS CALLEE bits.Len64 IS MET BY ITS OWN CONTRACT OFF THE SHELF (lay that first): entered in place it sends the kernel out of memory. (LAID: no walk: one application.) -/
theorem Try.bits_LeadingZeros64 (x : Int) (w : World) (h0 : 0 ≤ x) (h1 : x ≤ 18446744073709551615) :
    Calls Try.prog 127 #[.int .u64 x] w fun e w' => e = .returned (.int .i64 (64 - (Lib.bitLen x.toNat : Int))) ∧ w' = w := Any.bits_LeadingZeros64 Try.lays134 x w h0 h1
def Try.lays215_ren : Go.Shelf.Ren := ⟨fun | 215 => 114 | n => n, fun | 3 => 3 | 4 => 4 | n => n, fun | n => n⟩
theorem Try.lays215 : Go.Proofs.Lays.n215 Try.prog Try.lays215_ren := {
  mixed := by kernel_rfl
  f215 := Try.func114.trans (congrArg some (by kernel_rfl))
  t3 := Try.underlying3
  a3 := Try.isAgg3
  z3 := Try.sizeOf3
  v3 := Try.zeroValue3
  t4 := Try.underlying4
  a4 := Try.isAgg4
  z4 := Try.sizeOf4
  v4 := Try.zeroValue4 }
open Go.RowKit in
/-- cmp.isNaN at int: 'x != x': false. (LAID: no walk: one application.) -/
theorem Try.cmp_isNaN_int (x : Int) (w : World) :
    Calls Try.prog 114 #[.int .i64 x] w fun e w' => e = .returned (.bool false) ∧ w' = w := Any.cmp_isNaN_int Try.lays215 x w
def Try.lays122_ren : Go.Shelf.Ren := ⟨fun | 122 => 94 | 215 => 114 | n => n, fun | 3 => 3 | 4 => 4 | n => n, fun | n => n⟩
theorem Try.lays122 : Go.Proofs.Lays.n122 Try.prog Try.lays122_ren := {
  mixed := by kernel_rfl
  f122 := Try.func94.trans (congrArg some (by kernel_rfl))
  f215 := Try.func114.trans (congrArg some (by kernel_rfl))
  t3 := Try.underlying3
  a3 := Try.isAgg3
  z3 := Try.sizeOf3
  v3 := Try.zeroValue3
  t4 := Try.underlying4
  a4 := Try.isAgg4
  z4 := Try.sizeOf4
  v4 := Try.zeroValue4 }
open Go.RowKit in
/-- cmp.Compare at int: "Compare returns -1 if x is less than y, 0 if x equals y, +1 if x is greater than y.": IT RETURNS 'Lib.compareInt x y'; the world is as it was. (LAID: no walk: one application.) -/
theorem Try.cmp_Compare_int (x y : Int) (w : World) :
    Calls Try.prog 94 #[.int .i64 x, .int .i64 y] w fun e w' => e = .returned (.int .i64 (Lib.compareInt x y)) ∧ w' = w := Any.cmp_Compare_int Try.lays122 x y w
def Try.lays129_ren : Go.Shelf.Ren := ⟨fun | 129 => 130 | n => n, fun | 53 => 77 | 3 => 3 | 4 => 4 | 46 => 142 | 5 => 5 | 9 => 9 | n => n, fun | n => n⟩
theorem Try.lays129 : Go.Proofs.Lays.n129 Try.prog Try.lays129_ren := {
  mixed := by kernel_rfl
  f129 := Try.func130.trans (congrArg some (by kernel_rfl))
  t3 := Try.underlying3
  a3 := Try.isAgg3
  z3 := Try.sizeOf3
  v3 := Try.zeroValue3
  t4 := Try.underlying4
  a4 := Try.isAgg4
  z4 := Try.sizeOf4
  v4 := Try.zeroValue4
  t5 := Try.underlying5
  a5 := Try.isAgg5
  z5 := Try.sizeOf5
  v5 := Try.zeroValue5
  t9 := Try.underlying9
  a9 := Try.isAgg9
  z9 := Try.sizeOf9
  v9 := Try.zeroValue9
  t46 := Try.underlying142
  a46 := Try.isAgg142
  z46 := Try.sizeOf142
  v46 := Try.zeroValue142
  t53 := Try.underlying77
  a53 := Try.isAgg77
  z53 := Try.sizeOf77
  v53 := Try.zeroValue77 }
/-- bits.Len64: "Len64 returns the minimum number of bits required to represent x; the result is 0 for x == 0.": IT RETURNS 'Lib.bitLen x'; the world is as it was. ('h0', 'h1': x is a uint64.) (LAID: no walk: one application.) -/
theorem Try.bits_Len64 (x : Int) (w : World) (h0 : 0 ≤ x) (h1 : x ≤ 18446744073709551615) :
    Calls Try.prog 130 #[.int .u64 x] w fun e w' => e = .returned (.int .i64 (Lib.bitLen x.toNat)) ∧ w' = w := Any.bits_Len64 Try.lays129 x w h0 h1
def Try.lays264_ren : Go.Shelf.Ren := ⟨fun | 264 => 115 | n => n, fun | 53 => 77 | 46 => 142 | n => n, fun | n => n⟩
theorem Try.lays264 : Go.Proofs.Lays.n264 Try.prog Try.lays264_ren := {
  mixed := by kernel_rfl
  f264 := Try.func115.trans (congrArg some (by kernel_rfl))
  t46 := Try.underlying142
  a46 := Try.isAgg142
  z46 := Try.sizeOf142
  v46 := Try.zeroValue142
  t53 := Try.underlying77
  a53 := Try.isAgg77
  z53 := Try.sizeOf77
  v53 := Try.zeroValue77 }
open Go.RowKit Go.Lib in
theorem Try.bits_Mul64 (x y : Nat) (hx : x < 18446744073709551616) (hy : y < 18446744073709551616) (w : World) :
    Calls Try.prog 115 #[.int .u64 x, .int .u64 y] w fun e w' => e = .returned (.tuple #[.int .u64 ((x * y / 18446744073709551616 : Nat) : Int), .int .u64 ((x * y % 18446744073709551616 : Nat) : Int)]) ∧ w' = w := Any.bits_Mul64 Try.lays264 x y hx hy w
def Try.laysNm215_ren : Go.Shelf.Ren := ⟨fun | 15 => 109 | n => n, fun | 22 => 35 | 3 => 3 | 4 => 4 | n => n, fun | n => n⟩
theorem Try.laysNm215 : Go.Proofs.Lays2.n15 Try.prog Try.laysNm215_ren := {
  mixed := by kernel_rfl
  f15 := Try.func109.trans (congrArg some (by kernel_rfl))
  t3 := Try.underlying3
  a3 := Try.isAgg3
  z3 := Try.sizeOf3
  v3 := Try.zeroValue3
  t4 := Try.underlying4
  a4 := Try.isAgg4
  z4 := Try.sizeOf4
  v4 := Try.zeroValue4
  t22 := Try.underlying35
  a22 := Try.isAgg35
  z22 := Try.sizeOf35
  v22 := Try.zeroValue35
  i3 := by kernel_rfl }
open Go.RowKit Go.Lib in
/-- slices.Clone at []int: "Clone returns a copy of the slice. The elements are copied using assignment, so this is a shallow clone. The result may have additional unused capacity. The result preserves the nilness of s.": OF A SLICE THAT IS NOT nil IT RETURNS A SLICE THAT IS NOT nil, OF THE SAME ELEMENTS, IN MEMORY OF THE CALL's OWN: in the how-to's words (6f): 'w'.ownsRow B e 1 v' n cells': v' begins at the head of a row among the blocks from B on (B: the heap's size at the call), not frozen, whose first cells are the elements · 'Below B w w'': below B all is as it was. The capacity is whatever the run-time gives. 'zs': what the cells behind the slice's address hold; 'zs.take n': its elements. (LAID: no walk: one application.) -/
theorem Try.slices_Clone_int (b off n c : Nat) (zs : List Int) (w : World) (hz : n ≤ zs.length) (hbig : n * 8 ≤ 140737488355328) (hc : ∀ j, j < zs.length → w.cell? ⟨b, off + j, none⟩ = some (.int .i64 (zs.getD j 0))) :
    Calls Try.prog 109 #[.slice (some ⟨b, off, none⟩) n c] w fun e w' => ∃ v', e = .returned v' ∧ w'.ownsRow w.heap.size 3 1 v' n ((zs.take n).map (Value.int .i64)) ∧ v' ≠ .slice none 0 0 ∧ Below w.heap.size w w' := Any.slices_Clone_int Try.laysNm215 b off n c zs w hz hbig hc
open Go.RowKit Go.Lib in
/-- The same at nil: nil comes back; the world is as it was. (LAID: no walk: one application.) -/
theorem Try.slices_Clone_int_nil (n c : Nat) (w : World) :
    Calls Try.prog 109 #[.slice none n c] w fun e w' => e = .returned (.slice none 0 0) ∧ w' = w := Any.slices_Clone_int_nil Try.laysNm215 n c w
open Go.RowKit Go.Lib in
/-- The same at a slice of length 0 that is not nil, WHATEVER ITS ADDRESS (no cell is asked for): a slice that is not nil and owns nothing comes back. (LAID: no walk: one application.) -/
theorem Try.slices_Clone_int_zero (a : Addr) (c : Nat) (w : World) :
    Calls Try.prog 109 #[.slice (some a) 0 c] w fun e w' => ∃ v', e = .returned v' ∧ w'.ownsRow w.heap.size 3 1 v' 0 [] ∧ v' ≠ .slice none 0 0 ∧ Below w.heap.size w w' := Any.slices_Clone_int_zero Try.laysNm215 a c w
def Try.laysNm237_ren : Go.Shelf.Ren := ⟨fun | 37 => 114 | n => n, fun | 3 => 3 | 4 => 4 | n => n, fun | n => n⟩
theorem Try.laysNm237 : Go.Proofs.Lays2.n37 Try.prog Try.laysNm237_ren := {
  mixed := by kernel_rfl
  f37 := Try.func114.trans (congrArg some (by kernel_rfl))
  t3 := Try.underlying3
  a3 := Try.isAgg3
  z3 := Try.sizeOf3
  v3 := Try.zeroValue3
  t4 := Try.underlying4
  a4 := Try.isAgg4
  z4 := Try.sizeOf4
  v4 := Try.zeroValue4 }
open Go.RowKit Go.Lib in
/-- cmp.isNaN[int]: 'x != x': false. (LAID: no walk: one application.) -/
theorem Try.cmp_isNaN_int2 (x : Int) (w : World) :
    Calls Try.prog 114 #[.int .i64 x] w fun e w' => e = .returned (.bool false) ∧ w' = w := Any.cmp_isNaN_int2 Try.laysNm237 x w
def Try.sortS_ren : Go.Shelf.Ren := ⟨fun | 6 => 121 | 15 => 129 | 14 => 128 | 28 => 139 | 29 => 130 | 20 => 131 | 21 => 132 | 22 => 133 | 23 => 134 | 24 => 135 | 25 => 136 | 26 => 137 | 27 => 138 | 46 => 140 | 47 => 141 | 48 => 142 | 49 => 143 | 50 => 144 | 57 => 145 | n => n, fun | 22 => 125 | 24 => 102 | 25 => 139 | 3 => 3 | 39 => 142 | 0 => 0 | 53 => 157 | 55 => 77 | 4 => 4 | 46 => 151 | 45 => 150 | 50 => 97 | 5 => 5 | 9 => 9 | 66 => 158 | 70 => 162 | 76 => 164 | 77 => 49 | n => n, fun | n => n⟩
theorem Try.sortS : Go.Proofs.SlLaysF0.n6 Try.prog Try.sortS_ren := {
  mixed := by kernel_rfl
  f6 := ⟨Try.f121.name, by decide, Try.func121.trans (congrArg some (by kernel_rfl))⟩
  f14 := ⟨Try.f128.name, by decide, Try.func128.trans (congrArg some (by kernel_rfl))⟩
  f15 := Try.func129.trans (congrArg some (by kernel_rfl))
  f20 := ⟨Try.f131.name, by decide, Try.func131.trans (congrArg some (by kernel_rfl))⟩
  f21 := ⟨Try.f132.name, by decide, Try.func132.trans (congrArg some (by kernel_rfl))⟩
  f22 := ⟨Try.f133.name, by decide, Try.func133.trans (congrArg some (by kernel_rfl))⟩
  f23 := ⟨Try.f134.name, by decide, Try.func134.trans (congrArg some (by kernel_rfl))⟩
  f24 := ⟨Try.f135.name, by decide, Try.func135.trans (congrArg some (by kernel_rfl))⟩
  f25 := ⟨Try.f136.name, by decide, Try.func136.trans (congrArg some (by kernel_rfl))⟩
  f26 := ⟨Try.f137.name, by decide, Try.func137.trans (congrArg some (by kernel_rfl))⟩
  f27 := ⟨Try.f138.name, by decide, Try.func138.trans (congrArg some (by kernel_rfl))⟩
  f28 := Try.func139.trans (congrArg some (by kernel_rfl))
  f29 := Try.func130.trans (congrArg some (by kernel_rfl))
  f46 := ⟨Try.f140.name, by decide, Try.func140.trans (congrArg some (by kernel_rfl))⟩
  f47 := Try.func141.trans (congrArg some (by kernel_rfl))
  f48 := Try.func142.trans (congrArg some (by kernel_rfl))
  f49 := ⟨Try.f143.name, by decide, Try.func143.trans (congrArg some (by kernel_rfl))⟩
  f50 := ⟨Try.f144.name, by decide, Try.func144.trans (congrArg some (by kernel_rfl))⟩
  f57 := ⟨Try.f145.name, by decide, Try.func145.trans (congrArg some (by kernel_rfl))⟩
  t0 := Try.underlying0
  a0 := Try.isAgg0
  z0 := Try.sizeOf0
  v0 := Try.zeroValue0
  t3 := Try.underlying3
  a3 := Try.isAgg3
  z3 := Try.sizeOf3
  v3 := Try.zeroValue3
  t4 := Try.underlying4
  a4 := Try.isAgg4
  z4 := Try.sizeOf4
  v4 := Try.zeroValue4
  t5 := Try.underlying5
  a5 := Try.isAgg5
  z5 := Try.sizeOf5
  v5 := Try.zeroValue5
  t9 := Try.underlying9
  a9 := Try.isAgg9
  z9 := Try.sizeOf9
  v9 := Try.zeroValue9
  t22 := Try.underlying125
  a22 := Try.isAgg125
  z22 := Try.sizeOf125
  v22 := Try.zeroValue125
  t25 := Try.underlying139
  a25 := Try.isAgg139
  z25 := Try.sizeOf139
  v25 := Try.zeroValue139
  t39 := Try.underlying142
  a39 := Try.isAgg142
  z39 := Try.sizeOf142
  v39 := Try.zeroValue142
  t45 := Try.underlying150
  a45 := Try.isAgg150
  z45 := Try.sizeOf150
  v45 := Try.zeroValue150
  t46 := Try.underlying151
  a46 := Try.isAgg151
  z46 := Try.sizeOf151
  v46 := Try.zeroValue151
  t50 := Try.underlying97
  a50 := Try.isAgg97
  z50 := Try.sizeOf97
  v50 := Try.zeroValue97
  t53 := Try.underlying157
  a53 := Try.isAgg157
  z53 := Try.sizeOf157
  v53 := Try.zeroValue157
  t55 := Try.underlying77
  a55 := Try.isAgg77
  z55 := Try.sizeOf77
  v55 := Try.zeroValue77
  t66 := Try.underlying158
  a66 := Try.isAgg158
  z66 := Try.sizeOf158
  v66 := Try.zeroValue158
  t70 := Try.underlying162
  a70 := Try.isAgg162
  z70 := Try.sizeOf162
  v70 := Try.zeroValue162
  t76 := Try.underlying164
  a76 := Try.isAgg164
  z76 := Try.sizeOf164
  v76 := Try.zeroValue164
  t77 := Try.underlying49
  a77 := Try.isAgg49
  z77 := Try.sizeOf49
  v77 := Try.zeroValue49 }
def Try.searchS_ren : Go.Shelf.Ren := ⟨fun | 16 => 106 | n => n, fun | 3 => 3 | 35 => 128 | 4 => 4 | 38 => 142 | n => n, fun | n => n⟩
theorem Try.searchS : Go.Proofs.SlLaysO.n16 Try.prog Try.searchS_ren := {
  mixed := by kernel_rfl
  f16 := Try.func106.trans (congrArg some (by kernel_rfl))
  t3 := Try.underlying3
  a3 := Try.isAgg3
  z3 := Try.sizeOf3
  v3 := Try.zeroValue3
  t4 := Try.underlying4
  a4 := Try.isAgg4
  z4 := Try.sizeOf4
  v4 := Try.zeroValue4
  t35 := Try.underlying128
  a35 := Try.isAgg128
  z35 := Try.sizeOf128
  v35 := Try.zeroValue128
  t38 := Try.underlying142
  a38 := Try.isAgg142
  z38 := Try.sizeOf142
  v38 := Try.zeroValue142 }
end Go.Proofs

/- Walks of the small functions of package gear on numbers: magnitude, gcd, product, wide.compare. -/
namespace Go.Proofs.Ytoenimkgagndnaa
set_option linter.unusedVariables false
set_option linter.unusedSimpArgs false
open Go.RowKit

theorem ret_u64 {a b : Int} (h : a = b) : Ending.returned (.int .u64 a) = .returned (.int .u64 b) := by rw [h]
theorem ret_i64 {a b : Int} (h : a = b) : Ending.returned (.int .i64 a) = .returned (.int .i64 b) := by rw [h]

theorem mag_neg (a : Int) (h0 : -9223372036854775808 ≤ a) (h : a < 0) : IntKind.u64.wrap (-IntKind.u64.wrap a) = (a.natAbs : Nat) := by
  rw [IntKind.wrap_u64, IntKind.wrap_u64]; omega

theorem mag_any (a : Int) (w : World) (h0 : -9223372036854775808 ≤ a) (h1 : a ≤ 9223372036854775807) :
    Calls Try.prog 53 #[.int .i64 a] w fun e w' => e = .returned (.int .u64 (a.natAbs : Nat)) ∧ w = w' := by
  by_cases h : a < 0
  · go_enter Try.func53, Try.ntmps53
    go_wp2
    go_ret
    exact ⟨ret_u64 (mag_neg a h0 h), rfl⟩
  · go_enter Try.func53, Try.ntmps53
    go_wp2
    go_ret
    exact ⟨ret_u64 (by omega), rfl⟩

theorem gcd_step (x y : Nat) : Nat.gcd y (x % y) = Nat.gcd x y := by rw [Nat.gcd_comm x y, Nat.gcd_rec y x, Nat.gcd_comm]

set_option maxHeartbeats 400000 in
theorem gcd_any (a b : Nat) (w : World) (ha : a ≤ 18446744073709551615) (hb : b ≤ 18446744073709551615) :
    Calls Try.prog 54 #[.int .u64 a, .int .u64 b] w fun e w' => e = .returned (.int .u64 (Nat.gcd a b : Nat)) ∧ ∃ n, w' = w.drewN n := by
  go_enter Try.func54, Try.ntmps54
  go_wp2
  go_loopw [0, 1] (fun s t wr => ∃ x y n : Nat, x ≤ 18446744073709551615 ∧ y ≤ 18446744073709551615 ∧ s = .int .u64 x ∧ t = .int .u64 y ∧ Hid (Nat.gcd x y = Nat.gcd a b) ∧ wr = w.drewN n) (fun _ t _ => (intOf t).toNat)
  case atStart => exact ⟨a, b, 0, ha, hb, rfl, rfl, rfl, rfl⟩
  case round =>
    obtain ⟨x, y, n, hx, hy, rfl, rfl, hg, rfl⟩ := hrel
    by_cases h : y = 0
    · subst h
      go_wp2
      go_ret
      exact ⟨ret_u64 (by have := hg.out; simp at this; omega), n, rfl⟩
    · have h0 : ((y : Int) == 0) = false := by simp; omega
      have h1 : ((y : Int) != 0) = true := by simp; omega
      go_wp2
      go_quiet (fail)
      go_wp2
      go_roundw
      case rel => exact ⟨y, x % y, n + nq, hy, by have := Nat.mod_le x y; omega, rfl, rfl, (gcd_step x y).trans hg.out, by rw [World.drewN_drewN]⟩
      case measure => simp [intOf]; exact Nat.mod_lt _ (by omega)

/-- -1, 0 or 1 as a is less than, equal to or greater than b. -/
def cmpZ (a b : Int) : Int := if a < b then -1 else if b < a then 1 else 0
theorem cmpZ_lt {a b : Int} (h : a < b) : cmpZ a b = -1 := by unfold cmpZ; rw [if_pos h]
theorem cmpZ_gt {a b : Int} (h : b < a) : cmpZ a b = 1 := by unfold cmpZ; rw [if_neg (by omega), if_pos h]
theorem cmpZ_eq {a b : Int} (h : a = b) : cmpZ a b = 0 := by unfold cmpZ; rw [if_neg (by omega), if_neg (by omega)]

theorem cmpZ_cases' (a b : Int) : (cmpZ a b = -1 ∧ a < b) ∨ (cmpZ a b = 0 ∧ a = b) ∨ (cmpZ a b = 1 ∧ b < a) := by
  unfold cmpZ; split
  · exact .inl ⟨rfl, by assumption⟩
  · split
    · exact .inr (.inr ⟨rfl, by assumption⟩)
    · exact .inr (.inl ⟨rfl, by omega⟩)

theorem cmpU_any (a b : Int) (w : World) (ha0 : 0 ≤ a) (ha : a ≤ 18446744073709551615) (hb0 : 0 ≤ b) (hb : b ≤ 18446744073709551615) :
    Calls Try.prog 110 #[.int .u64 a, .int .u64 b] w fun e w' => e = .returned (.int .i64 (cmpZ a b)) ∧ w = w' := by
  have hx : (a != a) = false := by simp
  have hy : (b != b) = false := by simp
  rcases Int.lt_trichotomy a b with h | h | h
  · go_enter Try.func110, Try.ntmps110
    go_wp2
    go_ret
    exact ⟨ret_i64 (cmpZ_lt (by omega)).symm, rfl⟩
  · subst h
    go_enter Try.func110, Try.ntmps110
    go_wp2
    go_ret
    exact ⟨ret_i64 (cmpZ_eq (by omega)).symm, rfl⟩
  · go_enter Try.func110, Try.ntmps110
    go_wp2
    go_ret
    exact ⟨ret_i64 (cmpZ_gt (by omega)).symm, rfl⟩

theorem cmpI_any (a b : Int) (w : World) :
    Calls Try.prog 94 #[.int .i64 a, .int .i64 b] w fun e w' => e = .returned (.int .i64 (cmpZ a b)) ∧ w = w' := by
  have hx : (a != a) = false := by simp
  have hy : (b != b) = false := by simp
  rcases Int.lt_trichotomy a b with h | h | h
  · go_enter Try.func94, Try.ntmps94
    go_wp2
    go_ret
    exact ⟨ret_i64 (cmpZ_lt (by omega)).symm, rfl⟩
  · subst h
    go_enter Try.func94, Try.ntmps94
    go_wp2
    go_ret
    exact ⟨ret_i64 (cmpZ_eq (by omega)).symm, rfl⟩
  · go_enter Try.func94, Try.ntmps94
    go_wp2
    go_ret
    exact ⟨ret_i64 (cmpZ_gt (by omega)).symm, rfl⟩

theorem mul_hi {x y : Int} (hx0 : 0 ≤ x) (hx : x ≤ 18446744073709551615) (hy0 : 0 ≤ y) (hy : y ≤ 18446744073709551615) : 0 ≤ x * y ∧ x * y ≤ 340282366920938463426481119284349108225 := by
  have h1 := Int.mul_nonneg hx0 hy0
  have h2 := Int.mul_le_mul hx hy hy0 (by omega : (0 : Int) ≤ 18446744073709551615)
  exact ⟨h1, by omega⟩

/-- product: the two halves of x·y. -/
theorem product_any (x y : Int) (w : World) (hx0 : 0 ≤ x) (hx : x ≤ 18446744073709551615) (hy0 : 0 ≤ y) (hy : y ≤ 18446744073709551615) :
    Calls Try.prog 95 #[.int .u64 x, .int .u64 y] w fun e w' => e = .returned (.agg #[.int .u64 (x * y / 18446744073709551616), .int .u64 (x * y % 18446744073709551616)]) ∧ Gro w w' := by
  obtain ⟨a, rfl⟩ := Int.eq_ofNat_of_zero_le hx0
  obtain ⟨b, rfl⟩ := Int.eq_ofNat_of_zero_le hy0
  have h1 := Try.bits_Mul64 a b (by omega) (by omega)
  have e1 : ((a * b / 18446744073709551616 : Nat) : Int) = (a : Int) * b / 18446744073709551616 := by simp
  have e2 : ((a * b % 18446744073709551616 : Nat) : Int) = (a : Int) * b % 18446744073709551616 := by simp
  rw [e1, e2] at h1
  have h2 := mul_hi hx0 hx hy0 hy
  have h3 : 0 ≤ (a : Int) * b / 18446744073709551616 ∧ (a : Int) * b / 18446744073709551616 ≤ 18446744073709551615 := by omega
  have h4 : 0 ≤ (a : Int) * b % 18446744073709551616 ∧ (a : Int) * b % 18446744073709551616 ≤ 18446744073709551615 := by omega
  clear e1 e2 h2
  generalize (a : Int) * b / 18446744073709551616 = p at *
  generalize (a : Int) * b % 18446744073709551616 = q at *
  have H := fun w => Lib.hid (h1 w)
  clear h1
  go_enter Try.func95, Try.ntmps95
  go_wp2_with (go_at_call 115; refine (H _).out.mono ?_; rintro e w' ⟨rfl, rfl⟩)
  exact bodyPost_ret (v := .agg #[.int .u64 p, .int .u64 q]) (by simp [results, Try.results95, go_sem]) rfl ⟨rfl, gro_alloc (gro_refl _) _⟩
end Go.Proofs.Ytoenimkgagndnaa

/- Walks of package gear on fractions: wide.compare, compare, Check, fraction, Make. -/
namespace Go.Proofs.Ytoenimkgagndnaa
set_option linter.unusedVariables false
set_option linter.unusedSimpArgs false
open Go.RowKit

theorem ret_bool {a b : Bool} (h : a = b) : Ending.returned (.bool a) = .returned (.bool b) := by rw [h]

theorem inRange_any (n a b : Int) (w : World) :
    Calls Try.prog 72 #[.int .i64 n, .int .i64 a, .int .i64 b] w fun e w' => e = .returned (.bool (decide (a ≤ n ∧ n ≤ b))) ∧ w = w' := by
  by_cases h1 : a ≤ n <;> by_cases h2 : n ≤ b
  all_goals
    go_enter Try.func72, Try.ntmps72
    go_wp2
    go_ret
    exact ⟨ret_bool (by simp [h1, h2]), rfl⟩

/-- The number hi·2^64 + lo. -/
def wv (hi lo : Int) : Int := hi * 18446744073709551616 + lo

theorem wcmp_any (a b c d : Int) (w : World) (ha0 : 0 ≤ a) (ha : a ≤ 18446744073709551615) (hb0 : 0 ≤ b) (hb : b ≤ 18446744073709551615) (hc0 : 0 ≤ c) (hc : c ≤ 18446744073709551615) (hd0 : 0 ≤ d) (hd : d ≤ 18446744073709551615) :
    Calls Try.prog 88 #[.agg #[.int .u64 a, .int .u64 b], .agg #[.int .u64 c, .int .u64 d]] w fun e w' => e = .returned (.int .i64 (cmpZ (wv a b) (wv c d))) ∧ Gro w w' := by
  by_cases h : a = c
  · subst h
    have e : cmpZ b d = cmpZ (wv a b) (wv a d) := by unfold cmpZ wv; split <;> split <;> (try split) <;> (try split) <;> omega
    have e0 : (a != a) = false := by simp
    have E := Lib.hid e
    clear e
    go_enter Try.func88, Try.ntmps88
    go_wp2_with (go_at_call 110; refine (cmpU_any _ _ _ hb0 hb hd0 hd).mono ?_; rintro e w' ⟨rfl, rfl⟩)
    go_ret
    exact ⟨ret_i64 E.out, gro_alloc (gro_alloc (gro_refl _) _) _⟩
  · have e : cmpZ a c = cmpZ (wv a b) (wv c d) := by unfold cmpZ wv; split <;> split <;> (try split) <;> (try split) <;> omega
    have e0 : (a != c) = true := by simp; omega
    have E := Lib.hid e
    clear e h
    go_enter Try.func88, Try.ntmps88
    go_wp2_with (go_at_call 110; refine (cmpU_any _ _ _ ha0 ha hc0 hc).mono ?_; rintro e w' ⟨rfl, rfl⟩)
    go_ret
    exact ⟨ret_i64 E.out, gro_alloc (gro_alloc (gro_refl _) _) _⟩

theorem negative_any (n d : Int) (w : World) (h0 : -9223372036854775807 ≤ n) (h1 : n ≤ 9223372036854775807) :
    Calls Try.prog 63 #[.agg #[.int .i64 n, .int .i64 d]] w fun e w' => e = .returned (.agg #[.int .i64 (-n), .int .i64 d]) ∧ Below w.heap.size w w' := by
  go_enter Try.func63, Try.ntmps63
  go_wp2
  exact bodyPost_ret (v := .agg #[.int .i64 (-n), .int .i64 d]) (by simp [results, Try.results63, go_sem]) rfl ⟨rfl, ((Below.refl _ _).alloc (Nat.le_refl _) _).alloc (by simp) _⟩

/-- A fraction that is valid. -/
def okF (n d : Int) : Prop := 1 ≤ d ∧ d ≤ 4611686018427387904 ∧ -4611686018427387904 ≤ n ∧ n ≤ 4611686018427387904 ∧ Int.gcd n d = 1
instance (n d : Int) : Decidable (okF n d) := by unfold okF; infer_instance
/-- What Check returns. -/
def ckF (n d : Int) : Int := if okF n d then 0 else 2
theorem ckF_bad {n d : Int} (h : ¬ okF n d) : ckF n d = 2 := by unfold ckF; rw [if_neg h]
theorem ckF_ok {n d : Int} (h : okF n d) : ckF n d = 0 := by unfold ckF; rw [if_pos h]

set_option maxHeartbeats 400000 in
theorem check_any (n d : Int) (w : World) (hn : -9223372036854775808 ≤ n) (hn' : n ≤ 9223372036854775807) (hd : -9223372036854775808 ≤ d) (hd' : d ≤ 9223372036854775807) :
    Calls Try.prog 20 #[.agg #[.int .i64 n, .int .i64 d]] w fun e w' => e = .returned (.int .i64 (ckF n d)) ∧ Gro w w' := by
  by_cases h1 : d < 1
  · go_enter Try.func20, Try.ntmps20
    go_wp2
    go_ret
    exact ⟨ret_i64 (ckF_bad (by unfold okF; omega)).symm, gro_alloc (gro_refl _) _⟩
  by_cases h2 : 4611686018427387904 < d
  · go_enter Try.func20, Try.ntmps20
    go_wp2
    go_ret
    exact ⟨ret_i64 (ckF_bad (by unfold okF; omega)).symm, gro_alloc (gro_refl _) _⟩
  by_cases h3 : n < -4611686018427387904
  · go_enter Try.func20, Try.ntmps20
    go_wp2
    go_ret
    exact ⟨ret_i64 (ckF_bad (by unfold okF; omega)).symm, gro_alloc (gro_refl _) _⟩
  by_cases h4 : 4611686018427387904 < n
  · go_enter Try.func20, Try.ntmps20
    go_wp2
    go_ret
    exact ⟨ret_i64 (ckF_bad (by unfold okF; omega)).symm, gro_alloc (gro_refl _) _⟩
  have hc := gcd_any n.natAbs d.natAbs
  have d1 : decide (4611686018427387904 < d) = false := by simpa using h2
  have d2 : decide (n < -4611686018427387904) = false := by simpa using h3
  have d3 : decide (4611686018427387904 < n) = false := by simpa using h4
  by_cases hg : Int.gcd n d = 1
  · have E := Lib.hid (ckF_ok (n := n) (d := d) ⟨by omega, by omega, by omega, by omega, hg⟩)
    have hq : (((Nat.gcd n.natAbs d.natAbs : Nat) : Int) != 1) = false := by
      have : Nat.gcd n.natAbs d.natAbs = 1 := hg
      simp [this]
    generalize Nat.gcd n.natAbs d.natAbs = g at *
    clear hg
    go_enter Try.func20, Try.ntmps20
    go_wp2
    go_quiet ((first | (go_at_call 53; exact qt_same (mag_any _ _ (by omega) (by omega))) | (go_at_call 54; exact Calls.quiet_of (hc _ (by omega) (by omega)))))
    go_wp2
    go_ret
    exact ⟨ret_i64 E.out.symm, gro_drewN (gro_alloc (gro_refl _) _) _⟩
  · have E := Lib.hid (ckF_bad (n := n) (d := d) (fun h => hg h.2.2.2.2))
    have hq : (((Nat.gcd n.natAbs d.natAbs : Nat) : Int) != 1) = true := by
      have : ¬ Nat.gcd n.natAbs d.natAbs = 1 := hg
      simp; omega
    generalize Nat.gcd n.natAbs d.natAbs = g at *
    clear hg
    go_enter Try.func20, Try.ntmps20
    go_wp2
    go_quiet ((first | (go_at_call 53; exact qt_same (mag_any _ _ (by omega) (by omega))) | (go_at_call 54; exact Calls.quiet_of (hc _ (by omega) (by omega)))))
    go_wp2
    go_ret
    exact ⟨ret_i64 E.out.symm, gro_drewN (gro_alloc (gro_refl _) _) _⟩
end Go.Proofs.Ytoenimkgagndnaa

/- Walks of package gear on fractions: compare. -/
namespace Go.Proofs.Ytoenimkgagndnaa
set_option linter.unusedVariables false
set_option linter.unusedSimpArgs false
open Go.RowKit

theorem wv_split (x : Int) : wv (x / 18446744073709551616) (x % 18446744073709551616) = x := by unfold wv; omega

/-- What compare returns. -/
def cmpF (n d m e : Int) : Int := cmpZ (n * e) (m * d)

/-- A number below 2^128 in a block. -/
def wAt (W : World) (g : Nat) (x : Int) : Prop := W.cell? ⟨g, 0, none⟩ = some (.int .u64 (x / 18446744073709551616)) ∧ W.cell? ⟨g, 1, none⟩ = some (.int .u64 (x % 18446744073709551616))
/-- A fraction in a block. -/
def fAt (W : World) (g : Nat) (n d : Int) : Prop := W.cell? ⟨g, 0, none⟩ = some (.int .i64 n) ∧ W.cell? ⟨g, 1, none⟩ = some (.int .i64 d)

/-- The first product is made. -/
def CutA (w : World) (x : Int) (n d m e : Int) (s : Value) (wx : World) : Prop := ∃ g : Nat, s = .pointer (some ⟨g, 0, none⟩) ∧ wAt wx g x ∧ fAt wx w.heap.size n d ∧ fAt wx (w.heap.size + 1) m e ∧ Gro w wx
/-- Both products are made. -/
def CutB (w : World) (x y : Int) (n d : Int) (g : Nat) (s : Value) (wx : World) : Prop := ∃ k : Nat, s = .pointer (some ⟨k, 0, none⟩) ∧ wAt wx k y ∧ wAt wx g x ∧ fAt wx w.heap.size n d ∧ Gro w wx

theorem four (w : World) (x y z u : Int) (s t : TypeId) : fAt ((w.alloc (.cells #[.int .i64 x, .int .i64 y] s)).alloc (.cells #[.int .i64 z, .int .i64 u] t)) w.heap.size x y ∧ fAt ((w.alloc (.cells #[.int .i64 x, .int .i64 y] s)).alloc (.cells #[.int .i64 z, .int .i64 u] t)) (w.heap.size + 1) z u := by
  refine ⟨⟨?_, ?_⟩, ⟨?_, ?_⟩⟩
  all_goals (repeat (first | with_reducible rfl | with_reducible exact Below.refl _ _ | with_reducible exact gro_refl _ | with_reducible refine kc_drew ?_ | with_reducible refine kc_drewN _ ?_ | with_reducible refine kf_drew ?_ | with_reducible refine kf_drewN _ ?_ | ((with_reducible refine kc_new ?_ ?_); (focus (first | with_reducible rfl | (simp only [World.size_alloc, World.size_setCell, World.size_drew, size_drewN]; done))); (focus (first | rfl | (simp; done)))) | ((with_reducible refine kc_set0 ?_ ?_); (focus (first | rfl | (simp; done)))) | with_reducible refine ct_drew ?_ | with_reducible refine ct_drewN _ ?_ | ((with_reducible refine ct_new ?_ ?_); (focus (first | with_reducible rfl | (simp only [World.size_alloc, World.size_setCell, World.size_drew, size_drewN]; done))); (focus (first | rfl | (simp; done)))) | with_reducible refine ct_set _ _ ?_ | with_reducible refine ct_alloc _ ?_ | ((with_reducible refine kc_set ?_ ?_); (focus (first | (intro hx; injection hx; omega) | (simp; done)))) | with_reducible refine kc_alloc _ ?_ | ((with_reducible refine kf_new ?_ _); (focus (first | with_reducible rfl | (simp only [World.size_alloc, World.size_setCell, World.size_drew, size_drewN]; done)))) | with_reducible refine kf_set _ _ ?_ | ((with_reducible refine kf_alloc _ ?_ ?_); (focus (first | (simp only [World.size_alloc, World.size_setCell, World.size_drew, size_drewN]; omega) | (dsimp only; omega)))) | with_reducible refine bl_alloc ?_ _ | with_reducible refine bl_drew ?_ | with_reducible refine bl_drewN ?_ _ | ((with_reducible refine bl_set ?_ ?_ _); (focus (dsimp only; omega))) | with_reducible refine gro_alloc ?_ _ | with_reducible refine gro_drew ?_ | with_reducible refine gro_drewN ?_ _ | ((with_reducible refine gro_set ?_ ?_ _); (focus (first | omega | (dsimp only; omega))))))

theorem cmp_abs {n d m e : Int} {s : Bool} (hs : (n < 0) = (m < 0)) (hsb : decide (n < 0) = s) (hd : 1 ≤ d) (he : 1 ≤ e) :
    (if s = true then cmpZ ((m.natAbs : Int) * (d.natAbs : Int)) ((n.natAbs : Int) * (e.natAbs : Int)) else cmpZ ((n.natAbs : Int) * (e.natAbs : Int)) ((m.natAbs : Int) * (d.natAbs : Int))) = cmpF n d m e := by
  have ed : (d.natAbs : Int) = d := by omega
  have ee : (e.natAbs : Int) = e := by omega
  rw [ed, ee]
  by_cases h : n < 0
  · have hm : m < 0 := by rw [← hs]; exact h
    have en : (n.natAbs : Int) = -n := by omega
    have em : (m.natAbs : Int) = -m := by omega
    rw [← hsb, en, em, Int.neg_mul, Int.neg_mul]
    simp only [h, decide_true, if_true]
    unfold cmpF cmpZ
    generalize n * e = a
    generalize m * d = b
    by_cases h1 : a < b
    · rw [if_pos (by omega), if_pos h1]
    · by_cases h2 : b < a
      · rw [if_neg (by omega), if_pos (by omega), if_neg h1, if_pos h2]
      · rw [if_neg (by omega), if_neg (by omega), if_neg h1, if_neg h2]
  · have hm : ¬ m < 0 := by rw [← hs]; exact h
    have en : (n.natAbs : Int) = n := by omega
    have em : (m.natAbs : Int) = m := by omega
    rw [← hsb, en, em]
    simp only [h, decide_false]
    rfl

theorem cmp_sign {n d m e : Int} (hs : ¬ ((n < 0) = (m < 0))) (hd : 1 ≤ d) (he : 1 ≤ e) : cmpZ n m = cmpF n d m e := by
  unfold cmpF
  by_cases h : n < 0
  · have hm : 0 ≤ m := by
      rcases (show m < 0 ∨ 0 ≤ m by omega) with hm | hm
      · exact absurd (propext ⟨fun _ => hm, fun _ => h⟩) hs
      · exact hm
    have h1 : n * e < 0 := Int.mul_neg_of_neg_of_pos h (by omega)
    have h2 : 0 ≤ m * d := Int.mul_nonneg hm (by omega)
    rw [cmpZ_lt (by omega), cmpZ_lt (by omega)]
  · have hm : m < 0 := by
      rcases (show m < 0 ∨ 0 ≤ m by omega) with hm | hm
      · exact hm
      · exact absurd (propext ⟨fun h' => absurd h' h, fun h' => by omega⟩) hs
    have h1 : m * d < 0 := Int.mul_neg_of_neg_of_pos hm (by omega)
    have h2 : 0 ≤ n * e := Int.mul_nonneg (by omega) (by omega)
    rw [cmpZ_gt (by omega), cmpZ_gt (by omega)]

set_option maxHeartbeats 2000000 in
set_option maxRecDepth 100000 in
theorem compare_same (n d m e : Int) (w : World) (hs : (n < 0) = (m < 0)) (hn : -9223372036854775808 ≤ n) (hn' : n ≤ 9223372036854775807) (hm : -9223372036854775808 ≤ m) (hm' : m ≤ 9223372036854775807)
    (hd : 1 ≤ d) (hd' : d ≤ 9223372036854775807) (he : 1 ≤ e) (he' : e ≤ 9223372036854775807) (s : Bool) (hsb : decide (n < 0) = s) :
    Calls Try.prog 62 #[.agg #[.int .i64 n, .int .i64 d], .agg #[.int .i64 m, .int .i64 e]] w fun v w' => v = .returned (.int .i64 (cmpF n d m e)) ∧ Gro w w' := by
  have t3 : decide (m < 0) = s := by rw [← hsb]; simp only [hs]
  have t1 : (s != s) = false := by simp
  have hq : (if s = true then cmpZ ((m.natAbs : Int) * (d.natAbs : Int)) ((n.natAbs : Int) * (e.natAbs : Int)) else cmpZ ((n.natAbs : Int) * (e.natAbs : Int)) ((m.natAbs : Int) * (d.natAbs : Int))) = cmpF n d m e := by
    exact cmp_abs hs hsb hd he
  have hpn : n.natAbs ≤ 18446744073709551615 := by omega
  have hpm : m.natAbs ≤ 18446744073709551615 := by omega
  have Q := Lib.hid hq
  have F := Lib.hid (four w n d m e 23 23)
  clear hq hs
  cases s
  all_goals
    go_enter Try.func62, Try.ntmps62
    go_upto_region 3 with fail
    go_cut [5] (fun s wx => CutA w ((n.natAbs : Int) * (e.natAbs : Int)) n d m e s wx)
    case first =>
      go_region_held3 (fun w' => (w'.cell? ⟨w.heap.size, 0, none⟩ = some (.int .i64 n) ∧ w'.cell? ⟨w.heap.size, 1, none⟩ = some (.int .i64 d)) ∧ w'.cell? ⟨w.heap.size + 1, 0, none⟩ = some (.int .i64 m) ∧ w'.cell? ⟨w.heap.size + 1, 1, none⟩ = some (.int .i64 e))
        (((try dsimp only); (repeat' apply And.intro)) <;> (repeat (first | with_reducible exact F.out.1.1 | with_reducible exact F.out.1.2 | with_reducible exact F.out.2.1 | with_reducible exact F.out.2.2 | with_reducible rfl | with_reducible exact Below.refl _ _ | with_reducible exact gro_refl _ | with_reducible refine kc_drew ?_ | with_reducible refine kc_drewN _ ?_ | with_reducible refine kf_drew ?_ | with_reducible refine kf_drewN _ ?_ | with_reducible refine kc_below hb1 ?_ | ((with_reducible refine kc_new ?_ ?_); (focus (first | with_reducible rfl | (simp only [World.size_alloc, World.size_setCell, World.size_drew, size_drewN]; done))); (focus (first | rfl | (simp; done)))) | ((with_reducible refine kc_set0 ?_ ?_); (focus (first | rfl | (simp; done)))) | with_reducible exact ct_of (F.out.1.1) | with_reducible exact ct_of (F.out.1.2) | with_reducible exact ct_of (F.out.2.1) | with_reducible exact ct_of (F.out.2.2) | with_reducible refine ct_drew ?_ | with_reducible refine ct_drewN _ ?_ | with_reducible refine ct_below hb1 ?_ | ((with_reducible refine ct_new ?_ ?_); (focus (first | with_reducible rfl | (simp only [World.size_alloc, World.size_setCell, World.size_drew, size_drewN]; done))); (focus (first | rfl | (simp; done)))) | with_reducible refine ct_set _ _ ?_ | with_reducible refine ct_alloc _ ?_ | ((with_reducible refine kc_set ?_ ?_); (focus (first | (intro hx; injection hx; omega) | (simp; done)))) | with_reducible refine kc_alloc _ ?_ | ((with_reducible refine kf_new ?_ _); (focus (first | with_reducible rfl | (simp only [World.size_alloc, World.size_setCell, World.size_drew, size_drewN]; done)))) | with_reducible refine kf_set _ _ ?_ | ((with_reducible refine kf_below hb1 ?_ ?_); (focus (simp only [World.size_alloc, World.size_setCell, World.size_drew, size_drewN]; omega))) | ((with_reducible refine kf_alloc _ ?_ ?_); (focus (first | (simp only [World.size_alloc, World.size_setCell, World.size_drew, size_drewN]; omega) | (dsimp only; omega)))) | with_reducible refine bl_alloc ?_ _ | with_reducible refine bl_drew ?_ | with_reducible refine bl_drewN ?_ _ | ((with_reducible refine bl_set ?_ ?_ _); (focus (dsimp only; omega))) | with_reducible refine bl_call ?_ hb1 | with_reducible refine gro_alloc ?_ _ | with_reducible refine gro_drew ?_ | with_reducible refine gro_drewN ?_ _ | ((with_reducible refine gro_set ?_ ?_ _); (focus (first | omega | (dsimp only; omega)))) | with_reducible refine gro_call ?_ hk1)))
        (first | (go_at_call 53; refine (mag_any _ _ (by omega) (by omega)).mono ?_; rintro e w' ⟨rfl, rfl⟩) | (go_at_call 95; refine (product_any _ _ _ (by omega) (by omega) (by omega) (by omega)).mono ?_; rintro e w1 ⟨rfl, hk1⟩; have hb1 := hk1.below; obtain ⟨hc1, hf1⟩ := bcell hb1; simp only [World.size_alloc, World.size_drew] at hc1 hf1; have hz1 : w.heap.size + 2 ≤ w1.heap.size := (by have := hb1.size; simp only [World.size_alloc, World.size_drew] at this; omega)))
      all_goals go_wp2_with fail
      all_goals go_meet
      all_goals refine ⟨_, rfl, ⟨?_, ?_⟩, ⟨?_, ?_⟩, ⟨?_, ?_⟩, ?_⟩
      all_goals (repeat (first | with_reducible exact F.out.1.1 | with_reducible exact F.out.1.2 | with_reducible exact F.out.2.1 | with_reducible exact F.out.2.2 | with_reducible rfl | with_reducible exact Below.refl _ _ | with_reducible exact gro_refl _ | with_reducible refine kc_drew ?_ | with_reducible refine kc_drewN _ ?_ | with_reducible refine kf_drew ?_ | with_reducible refine kf_drewN _ ?_ | with_reducible refine kc_below hb1 ?_ | ((with_reducible refine kc_new ?_ ?_); (focus (first | with_reducible rfl | (simp only [World.size_alloc, World.size_setCell, World.size_drew, size_drewN]; done))); (focus (first | rfl | (simp; done)))) | ((with_reducible refine kc_set0 ?_ ?_); (focus (first | rfl | (simp; done)))) | with_reducible exact ct_of (F.out.1.1) | with_reducible exact ct_of (F.out.1.2) | with_reducible exact ct_of (F.out.2.1) | with_reducible exact ct_of (F.out.2.2) | with_reducible refine ct_drew ?_ | with_reducible refine ct_drewN _ ?_ | with_reducible refine ct_below hb1 ?_ | ((with_reducible refine ct_new ?_ ?_); (focus (first | with_reducible rfl | (simp only [World.size_alloc, World.size_setCell, World.size_drew, size_drewN]; done))); (focus (first | rfl | (simp; done)))) | with_reducible refine ct_set _ _ ?_ | with_reducible refine ct_alloc _ ?_ | ((with_reducible refine kc_set ?_ ?_); (focus (first | (intro hx; injection hx; omega) | (simp; done)))) | with_reducible refine kc_alloc _ ?_ | ((with_reducible refine kf_new ?_ _); (focus (first | with_reducible rfl | (simp only [World.size_alloc, World.size_setCell, World.size_drew, size_drewN]; done)))) | with_reducible refine kf_set _ _ ?_ | ((with_reducible refine kf_below hb1 ?_ ?_); (focus (simp only [World.size_alloc, World.size_setCell, World.size_drew, size_drewN]; omega))) | ((with_reducible refine kf_alloc _ ?_ ?_); (focus (first | (simp only [World.size_alloc, World.size_setCell, World.size_drew, size_drewN]; omega) | (dsimp only; omega)))) | with_reducible refine bl_alloc ?_ _ | with_reducible refine bl_drew ?_ | with_reducible refine bl_drewN ?_ _ | ((with_reducible refine bl_set ?_ ?_ _); (focus (dsimp only; omega))) | with_reducible refine bl_call ?_ hb1 | with_reducible refine gro_alloc ?_ _ | with_reducible refine gro_drew ?_ | with_reducible refine gro_drewN ?_ _ | ((with_reducible refine gro_set ?_ ?_ _); (focus (first | omega | (dsimp only; omega)))) | with_reducible refine gro_call ?_ hk1))
    case rest =>
      obtain ⟨g, rfl, ⟨h0, h1⟩, ⟨h2, h3⟩, ⟨h4, h5⟩, hB⟩ := hcut
      have hg := World.block_lt_of_cell? _ _ h0
      have hgb : w.heap.size + 1 < wc.heap.size := World.block_lt_of_cell? _ _ h4
      have hX := mul_hi (x := (n.natAbs : Int)) (y := (e.natAbs : Int)) (by omega) (by omega) (by omega) (by omega)
      have hY := mul_hi (x := (m.natAbs : Int)) (y := (d.natAbs : Int)) (by omega) (by omega) (by omega) (by omega)
      go_upto_region 4 with fail
      go_cut [6] (fun s wx => CutB w ((n.natAbs : Int) * (e.natAbs : Int)) ((m.natAbs : Int) * (d.natAbs : Int)) n d g s wx)
      case first =>
        go_region_held3 (fun w' => (w'.cell? ⟨w.heap.size, 0, none⟩ = some (.int .i64 n) ∧ w'.cell? ⟨w.heap.size, 1, none⟩ = some (.int .i64 d)) ∧ w'.cell? ⟨w.heap.size + 1, 0, none⟩ = some (.int .i64 m) ∧ w'.cell? ⟨w.heap.size + 1, 1, none⟩ = some (.int .i64 e))
          (((try dsimp only); (repeat' apply And.intro)) <;> (repeat (first | with_reducible exact h2 | with_reducible exact h3 | with_reducible exact h4 | with_reducible exact h5 | with_reducible rfl | with_reducible exact Below.refl _ _ | with_reducible exact gro_refl _ | with_reducible refine kc_drew ?_ | with_reducible refine kc_drewN _ ?_ | with_reducible refine kf_drew ?_ | with_reducible refine kf_drewN _ ?_ | with_reducible refine kc_below hb1 ?_ | ((with_reducible refine kc_new ?_ ?_); (focus (first | with_reducible rfl | (simp only [World.size_alloc, World.size_setCell, World.size_drew, size_drewN]; done))); (focus (first | rfl | (simp; done)))) | ((with_reducible refine kc_set0 ?_ ?_); (focus (first | rfl | (simp; done)))) | with_reducible exact ct_of (h2) | with_reducible exact ct_of (h3) | with_reducible exact ct_of (h4) | with_reducible exact ct_of (h5) | with_reducible refine ct_drew ?_ | with_reducible refine ct_drewN _ ?_ | with_reducible refine ct_below hb1 ?_ | ((with_reducible refine ct_new ?_ ?_); (focus (first | with_reducible rfl | (simp only [World.size_alloc, World.size_setCell, World.size_drew, size_drewN]; done))); (focus (first | rfl | (simp; done)))) | with_reducible refine ct_set _ _ ?_ | with_reducible refine ct_alloc _ ?_ | ((with_reducible refine kc_set ?_ ?_); (focus (first | (intro hx; injection hx; omega) | (simp; done)))) | with_reducible refine kc_alloc _ ?_ | ((with_reducible refine kf_new ?_ _); (focus (first | with_reducible rfl | (simp only [World.size_alloc, World.size_setCell, World.size_drew, size_drewN]; done)))) | with_reducible refine kf_set _ _ ?_ | ((with_reducible refine kf_below hb1 ?_ ?_); (focus (simp only [World.size_alloc, World.size_setCell, World.size_drew, size_drewN]; omega))) | ((with_reducible refine kf_alloc _ ?_ ?_); (focus (first | (simp only [World.size_alloc, World.size_setCell, World.size_drew, size_drewN]; omega) | (dsimp only; omega)))) | with_reducible refine bl_alloc ?_ _ | with_reducible refine bl_drew ?_ | with_reducible refine bl_drewN ?_ _ | ((with_reducible refine bl_set ?_ ?_ _); (focus (dsimp only; omega))) | with_reducible refine bl_call ?_ hb1 | with_reducible refine gro_alloc ?_ _ | with_reducible refine gro_drew ?_ | with_reducible refine gro_drewN ?_ _ | ((with_reducible refine gro_set ?_ ?_ _); (focus (first | omega | (dsimp only; omega)))) | with_reducible refine gro_call ?_ hk1)))
          (first | (go_at_call 53; refine (mag_any _ _ (by omega) (by omega)).mono ?_; rintro e w' ⟨rfl, rfl⟩) | (go_at_call 95; refine (product_any _ _ _ (by omega) (by omega) (by omega) (by omega)).mono ?_; rintro e w1 ⟨rfl, hk1⟩; have hb1 := hk1.below; obtain ⟨hc1, hf1⟩ := bcell hb1; simp only [World.size_alloc, World.size_drew] at hc1 hf1; have hz1 : wc.heap.size ≤ w1.heap.size := (by have := hb1.size; simp only [World.size_alloc, World.size_drew] at this; omega)))
        all_goals go_wp2_with fail
        all_goals go_meet
        all_goals refine ⟨_, rfl, ⟨?_, ?_⟩, ⟨?_, ?_⟩, ⟨?_, ?_⟩, ?_⟩
        all_goals (repeat (first | with_reducible exact h0 | with_reducible exact h1 | with_reducible exact h2 | with_reducible exact h3 | with_reducible exact h4 | with_reducible exact h5 | with_reducible exact hB | with_reducible rfl | with_reducible exact Below.refl _ _ | with_reducible exact gro_refl _ | with_reducible refine kc_drew ?_ | with_reducible refine kc_drewN _ ?_ | with_reducible refine kf_drew ?_ | with_reducible refine kf_drewN _ ?_ | with_reducible refine kc_below hb1 ?_ | ((with_reducible refine kc_new ?_ ?_); (focus (first | with_reducible rfl | (simp only [World.size_alloc, World.size_setCell, World.size_drew, size_drewN]; done))); (focus (first | rfl | (simp; done)))) | ((with_reducible refine kc_set0 ?_ ?_); (focus (first | rfl | (simp; done)))) | with_reducible exact ct_of (h0) | with_reducible exact ct_of (h1) | with_reducible exact ct_of (h2) | with_reducible exact ct_of (h3) | with_reducible exact ct_of (h4) | with_reducible exact ct_of (h5) | with_reducible exact ct_of (hB) | with_reducible refine ct_drew ?_ | with_reducible refine ct_drewN _ ?_ | with_reducible refine ct_below hb1 ?_ | ((with_reducible refine ct_new ?_ ?_); (focus (first | with_reducible rfl | (simp only [World.size_alloc, World.size_setCell, World.size_drew, size_drewN]; done))); (focus (first | rfl | (simp; done)))) | with_reducible refine ct_set _ _ ?_ | with_reducible refine ct_alloc _ ?_ | ((with_reducible refine kc_set ?_ ?_); (focus (first | (intro hx; injection hx; omega) | (simp; done)))) | with_reducible refine kc_alloc _ ?_ | ((with_reducible refine kf_new ?_ _); (focus (first | with_reducible rfl | (simp only [World.size_alloc, World.size_setCell, World.size_drew, size_drewN]; done)))) | with_reducible refine kf_set _ _ ?_ | ((with_reducible refine kf_below hb1 ?_ ?_); (focus (simp only [World.size_alloc, World.size_setCell, World.size_drew, size_drewN]; omega))) | ((with_reducible refine kf_alloc _ ?_ ?_); (focus (first | (simp only [World.size_alloc, World.size_setCell, World.size_drew, size_drewN]; omega) | (dsimp only; omega)))) | with_reducible refine bl_alloc ?_ _ | with_reducible refine bl_drew ?_ | with_reducible refine bl_drewN ?_ _ | ((with_reducible refine bl_set ?_ ?_ _); (focus (dsimp only; omega))) | with_reducible refine bl_call ?_ hb1 | with_reducible refine gro_alloc ?_ _ | with_reducible refine gro_drew ?_ | with_reducible refine gro_drewN ?_ _ | ((with_reducible refine gro_set ?_ ?_ _); (focus (first | omega | (dsimp only; omega)))) | with_reducible refine gro_call ?_ hk1))
      case rest =>
        obtain ⟨k, rfl, ⟨k0, k1⟩, ⟨k2, k3⟩, ⟨k4, k5⟩, hB2⟩ := hcut
        go_wp2_with (go_at_call 88; refine (wcmp_any _ _ _ _ _ (by omega) (by omega) (by omega) (by omega) (by omega) (by omega) (by omega) (by omega)).mono ?_; rintro e w2 ⟨rfl, hk2⟩)
        go_ret
        exact ⟨ret_i64 (by have := Q.out; rw [wv_split, wv_split]; simpa using this), gro_call hB2 hk2⟩

theorem compare_any (n d m e : Int) (w : World) (hn : -9223372036854775808 ≤ n) (hn' : n ≤ 9223372036854775807) (hm : -9223372036854775808 ≤ m) (hm' : m ≤ 9223372036854775807)
    (hd : 1 ≤ d) (hd' : d ≤ 9223372036854775807) (he : 1 ≤ e) (he' : e ≤ 9223372036854775807) :
    Calls Try.prog 62 #[.agg #[.int .i64 n, .int .i64 d], .agg #[.int .i64 m, .int .i64 e]] w fun v w' => v = .returned (.int .i64 (cmpF n d m e)) ∧ Gro w w' := by
  by_cases hs : (n < 0) = (m < 0)
  · exact compare_same n d m e w hs hn hn' hm hm' hd hd' he he' _ rfl
  · have Q := Lib.hid (cmp_sign hs hd he)
    by_cases h : n < 0
    · have hm0 : ¬ m < 0 := fun k => hs (propext ⟨fun _ => k, fun _ => h⟩)
      have t2 : decide (n < 0) = true := by simpa using h
      have t3 : decide (m < 0) = false := by simpa using hm0
      clear hs hm0 h
      go_enter Try.func62, Try.ntmps62
      go_wp2_with (go_at_call 94; refine (cmpI_any _ _ _).mono ?_; rintro e w' ⟨rfl, rfl⟩)
      go_ret
      exact ⟨ret_i64 Q.out, gro_alloc (gro_alloc (gro_refl _) _) _⟩
    · have hm0 : m < 0 := Classical.byContradiction fun k => hs (propext ⟨fun x => absurd x h, fun x => absurd x k⟩)
      have t2 : decide (n < 0) = false := by simpa using h
      have t3 : decide (m < 0) = true := by simpa using hm0
      clear hs hm0 h
      go_enter Try.func62, Try.ntmps62
      go_wp2_with (go_at_call 94; refine (cmpI_any _ _ _).mono ?_; rintro e w' ⟨rfl, rfl⟩)
      go_ret
      exact ⟨ret_i64 Q.out, gro_alloc (gro_alloc (gro_refl _) _) _⟩
end Go.Proofs.Ytoenimkgagndnaa

/- Walks of package gear: fraction, Make. -/
namespace Go.Proofs.Ytoenimkgagndnaa
set_option linter.unusedVariables false
set_option linter.unusedSimpArgs false
open Go.RowKit

/-- What fraction returns. -/
def FracPost (minus : Bool) (x y : Int) (w : World) (e : Ending) (w' : World) : Prop :=
  Gro w w' ∧ ((4611686018427387904 < x ∨ 4611686018427387904 < y) ∧ e = .returned (.tuple #[.agg #[.int .i64 0, .int .i64 0], .int .i64 5]) ∨
    (x ≤ 4611686018427387904 ∧ y ≤ 4611686018427387904) ∧ e = .returned (.tuple #[.agg #[.int .i64 (if minus = true then -x else x), .int .i64 y], .int .i64 0]))

theorem negative_gro (n d : Int) (w : World) (h0 : -9223372036854775807 ≤ n) (h1 : n ≤ 9223372036854775807) :
    Calls Try.prog 63 #[.agg #[.int .i64 n, .int .i64 d]] w fun e w' => e = .returned (.agg #[.int .i64 (-n), .int .i64 d]) ∧ Gro w w' := by
  go_enter Try.func63, Try.ntmps63
  go_wp2
  exact bodyPost_ret (v := .agg #[.int .i64 (-n), .int .i64 d]) (by simp [results, Try.results63, go_sem]) rfl ⟨rfl, gro_alloc (gro_alloc (gro_refl _) _) _⟩


theorem wv_small {a b : Int} (h : 0 ≤ a) (h2 : 0 ≤ b) (k : wv a b ≤ 4611686018427387904) : a = 0 ∧ b ≤ 4611686018427387904 := by
  unfold wv at k; omega
theorem wv_zero (b : Int) : wv 0 b = b := by unfold wv; omega

/-- compare of a wide number with 2^62. -/
theorem wcmp_max (a b : Int) (w : World) (ha0 : 0 ≤ a) (ha : a ≤ 18446744073709551615) (hb0 : 0 ≤ b) (hb : b ≤ 18446744073709551615) :
    ∃ r : Int, ((4611686018427387904 < wv a b ∧ r = 1) ∨ (wv a b ≤ 4611686018427387904 ∧ r ≤ 0)) ∧ Hid (Calls Try.prog 88 #[.agg #[.int .u64 a, .int .u64 b], .agg #[.int .u64 0, .int .u64 4611686018427387904]] w fun e w' => e = .returned (.int .i64 r) ∧ Gro w w') := by
  refine ⟨cmpZ (wv a b) 4611686018427387904, ?_, ?_⟩
  · have := cmpZ_cases' (wv a b) 4611686018427387904
    omega
  · have := wcmp_any a b 0 4611686018427387904 w ha0 ha hb0 hb (by omega) (by omega) (by omega) (by omega)
    rw [show wv 0 4611686018427387904 = 4611686018427387904 from rfl] at this
    exact this

set_option maxHeartbeats 2000000 in
set_option maxRecDepth 100000 in
theorem fraction_any (minus : Bool) (a b c d : Int) (w : World) (ha0 : 0 ≤ a) (ha : a ≤ 18446744073709551615) (hb0 : 0 ≤ b) (hb : b ≤ 18446744073709551615) (hc0 : 0 ≤ c) (hc : c ≤ 18446744073709551615) (hd0 : 0 ≤ d) (hd : d ≤ 18446744073709551615) :
    Calls Try.prog 55 #[.bool minus, .agg #[.int .u64 a, .int .u64 b], .agg #[.int .u64 c, .int .u64 d]] w (FracPost minus (wv a b) (wv c d) w) := by
  have hx := fun W => wcmp_max a b W ha0 ha hb0 hb
  have hy := fun W => wcmp_max c d W hc0 hc hd0 hd
  have hv : 0 ≤ wv a b ∧ 0 ≤ wv c d := by unfold wv; omega
  go_enter Try.func55, Try.ntmps55
  go_wp2_with fail
  obtain ⟨r, hr, hc1⟩ := hx (((((w.alloc (.cells #[.int .u64 a, .int .u64 b] 82)).alloc (.cells #[.int .u64 c, .int .u64 d] 82)).alloc (.cells #[.int .i64 0, .int .i64 0] 23))).alloc (.cells #[.int .u64 0, .int .u64 4611686018427387904] 82))
  refine hc1.out.mono ?_
  rintro e w1 ⟨rfl, hk1⟩
  have hb1 := hk1.below
  obtain ⟨hcc, hff⟩ := bcell hb1
  simp only [World.size_alloc] at hcc hff
  rcases hr with ⟨hbig, rfl⟩ | ⟨hsm, hr0⟩
  · go_wp2
    exact bodyPost_ret (v := .tuple #[.agg #[.int .i64 0, .int .i64 0], .int .i64 5]) (by simp [results, Try.results55, go_sem, hcc]) rfl ⟨by (repeat (first | with_reducible rfl | with_reducible exact Below.refl _ _ | with_reducible exact gro_refl _ | with_reducible refine kc_drew ?_ | with_reducible refine kc_drewN _ ?_ | with_reducible refine kf_drew ?_ | with_reducible refine kf_drewN _ ?_ | with_reducible refine kc_below hb1 ?_ | ((with_reducible refine kc_new ?_ ?_); (focus (first | with_reducible rfl | (simp only [World.size_alloc, World.size_setCell, World.size_drew, size_drewN]; done))); (focus (first | rfl | (simp; done)))) | ((with_reducible refine kc_set0 ?_ ?_); (focus (first | rfl | (simp; done)))) | with_reducible refine ct_drew ?_ | with_reducible refine ct_drewN _ ?_ | with_reducible refine ct_below hb1 ?_ | ((with_reducible refine ct_new ?_ ?_); (focus (first | with_reducible rfl | (simp only [World.size_alloc, World.size_setCell, World.size_drew, size_drewN]; done))); (focus (first | rfl | (simp; done)))) | with_reducible refine ct_set _ _ ?_ | with_reducible refine ct_alloc _ ?_ | ((with_reducible refine kc_set ?_ ?_); (focus (first | (intro hx; injection hx; omega) | (simp; done)))) | with_reducible refine kc_alloc _ ?_ | ((with_reducible refine kf_new ?_ _); (focus (first | with_reducible rfl | (simp only [World.size_alloc, World.size_setCell, World.size_drew, size_drewN]; done)))) | with_reducible refine kf_set _ _ ?_ | ((with_reducible refine kf_below hb1 ?_ ?_); (focus (simp only [World.size_alloc, World.size_setCell, World.size_drew, size_drewN]; omega))) | ((with_reducible refine kf_alloc _ ?_ ?_); (focus (first | (simp only [World.size_alloc, World.size_setCell, World.size_drew, size_drewN]; omega) | (dsimp only; omega)))) | with_reducible refine bl_alloc ?_ _ | with_reducible refine bl_drew ?_ | with_reducible refine bl_drewN ?_ _ | ((with_reducible refine bl_set ?_ ?_ _); (focus (dsimp only; omega))) | with_reducible refine bl_call ?_ hb1 | with_reducible refine gro_alloc ?_ _ | with_reducible refine gro_drew ?_ | with_reducible refine gro_drewN ?_ _ | ((with_reducible refine gro_set ?_ ?_ _); (focus (first | omega | (dsimp only; omega)))) | with_reducible refine gro_call ?_ hk1)), Or.inl ⟨Or.inl hbig, rfl⟩⟩
  · have hr1 : decide (0 < r) = false := by simp; omega
    go_wp2_with fail
    obtain ⟨q, hq, hc2⟩ := hy w1
    refine hc2.out.mono ?_
    rintro e w2 ⟨rfl, hk2⟩
    have hk3 := gro_call hk1 hk2
    have hb3 := hk3.below
    clear hk1 hb1 hk2 hcc hff
    obtain ⟨hcc, hff⟩ := bcell hb3
    simp only [World.size_alloc] at hcc hff
    have hz3 := hb3.size
    simp only [World.size_alloc] at hz3
    rcases hq with ⟨hbig, rfl⟩ | ⟨hsm2, hq0⟩
    · go_wp2
      exact bodyPost_ret (v := .tuple #[.agg #[.int .i64 0, .int .i64 0], .int .i64 5]) (by simp [results, Try.results55, go_sem, hcc]) rfl ⟨by (repeat (first | with_reducible rfl | with_reducible exact Below.refl _ _ | with_reducible exact gro_refl _ | with_reducible refine kc_drew ?_ | with_reducible refine kc_drewN _ ?_ | with_reducible refine kf_drew ?_ | with_reducible refine kf_drewN _ ?_ | with_reducible refine kc_below hb3 ?_ | ((with_reducible refine kc_new ?_ ?_); (focus (first | with_reducible rfl | (simp only [World.size_alloc, World.size_setCell, World.size_drew, size_drewN]; done))); (focus (first | rfl | (simp; done)))) | ((with_reducible refine kc_set0 ?_ ?_); (focus (first | rfl | (simp; done)))) | with_reducible refine ct_drew ?_ | with_reducible refine ct_drewN _ ?_ | with_reducible refine ct_below hb3 ?_ | ((with_reducible refine ct_new ?_ ?_); (focus (first | with_reducible rfl | (simp only [World.size_alloc, World.size_setCell, World.size_drew, size_drewN]; done))); (focus (first | rfl | (simp; done)))) | with_reducible refine ct_set _ _ ?_ | with_reducible refine ct_alloc _ ?_ | ((with_reducible refine kc_set ?_ ?_); (focus (first | (intro hx; injection hx; omega) | (simp; done)))) | with_reducible refine kc_alloc _ ?_ | ((with_reducible refine kf_new ?_ _); (focus (first | with_reducible rfl | (simp only [World.size_alloc, World.size_setCell, World.size_drew, size_drewN]; done)))) | with_reducible refine kf_set _ _ ?_ | ((with_reducible refine kf_below hb3 ?_ ?_); (focus (simp only [World.size_alloc, World.size_setCell, World.size_drew, size_drewN]; omega))) | ((with_reducible refine kf_alloc _ ?_ ?_); (focus (first | (simp only [World.size_alloc, World.size_setCell, World.size_drew, size_drewN]; omega) | (dsimp only; omega)))) | with_reducible refine bl_alloc ?_ _ | with_reducible refine bl_drew ?_ | with_reducible refine bl_drewN ?_ _ | ((with_reducible refine bl_set ?_ ?_ _); (focus (dsimp only; omega))) | with_reducible refine bl_call ?_ hb3 | with_reducible refine gro_alloc ?_ _ | with_reducible refine gro_drew ?_ | with_reducible refine gro_drewN ?_ _ | ((with_reducible refine gro_set ?_ ?_ _); (focus (first | omega | (dsimp only; omega)))) | with_reducible refine gro_call ?_ hk3)), Or.inl ⟨Or.inr hbig, rfl⟩⟩
    · have hq1 : decide (0 < q) = false := by simp; omega
      obtain ⟨ea, eb⟩ := wv_small ha0 hb0 hsm
      obtain ⟨ec, ed⟩ := wv_small hc0 hd0 hsm2
      subst ea; subst ec
      have e1 := wv_zero b
      have e2 := wv_zero d
      have hg : w.heap.size + 1 + 1 < w2.heap.size := by omega
      have h20 : w2.cell? ⟨w.heap.size + 1 + 1, 0, none⟩ = some (.int .i64 0) := by (repeat (first | with_reducible rfl | with_reducible exact Below.refl _ _ | with_reducible exact gro_refl _ | with_reducible refine kc_drew ?_ | with_reducible refine kc_drewN _ ?_ | with_reducible refine kf_drew ?_ | with_reducible refine kf_drewN _ ?_ | with_reducible refine kc_below hb3 ?_ | ((with_reducible refine kc_new ?_ ?_); (focus (first | with_reducible rfl | (simp only [World.size_alloc, World.size_setCell, World.size_drew, size_drewN]; done))); (focus (first | rfl | (simp; done)))) | ((with_reducible refine kc_set0 ?_ ?_); (focus (first | rfl | (simp; done)))) | with_reducible refine ct_drew ?_ | with_reducible refine ct_drewN _ ?_ | with_reducible refine ct_below hb3 ?_ | ((with_reducible refine ct_new ?_ ?_); (focus (first | with_reducible rfl | (simp only [World.size_alloc, World.size_setCell, World.size_drew, size_drewN]; done))); (focus (first | rfl | (simp; done)))) | with_reducible refine ct_set _ _ ?_ | with_reducible refine ct_alloc _ ?_ | ((with_reducible refine kc_set ?_ ?_); (focus (first | (intro hx; injection hx; omega) | (simp; done)))) | with_reducible refine kc_alloc _ ?_ | ((with_reducible refine kf_new ?_ _); (focus (first | with_reducible rfl | (simp only [World.size_alloc, World.size_setCell, World.size_drew, size_drewN]; done)))) | with_reducible refine kf_set _ _ ?_ | ((with_reducible refine kf_below hb3 ?_ ?_); (focus (simp only [World.size_alloc, World.size_setCell, World.size_drew, size_drewN]; omega))) | ((with_reducible refine kf_alloc _ ?_ ?_); (focus (first | (simp only [World.size_alloc, World.size_setCell, World.size_drew, size_drewN]; omega) | (dsimp only; omega)))) | with_reducible refine bl_alloc ?_ _ | with_reducible refine bl_drew ?_ | with_reducible refine bl_drewN ?_ _ | ((with_reducible refine bl_set ?_ ?_ _); (focus (dsimp only; omega))) | with_reducible refine bl_call ?_ hb3 | with_reducible refine gro_alloc ?_ _ | with_reducible refine gro_drew ?_ | with_reducible refine gro_drewN ?_ _ | ((with_reducible refine gro_set ?_ ?_ _); (focus (first | omega | (dsimp only; omega)))) | with_reducible refine gro_call ?_ hk3))
      have h21 : w2.cell? ⟨w.heap.size + 1 + 1, 1, none⟩ = some (.int .i64 0) := by (repeat (first | with_reducible rfl | with_reducible exact Below.refl _ _ | with_reducible exact gro_refl _ | with_reducible refine kc_drew ?_ | with_reducible refine kc_drewN _ ?_ | with_reducible refine kf_drew ?_ | with_reducible refine kf_drewN _ ?_ | with_reducible refine kc_below hb3 ?_ | ((with_reducible refine kc_new ?_ ?_); (focus (first | with_reducible rfl | (simp only [World.size_alloc, World.size_setCell, World.size_drew, size_drewN]; done))); (focus (first | rfl | (simp; done)))) | ((with_reducible refine kc_set0 ?_ ?_); (focus (first | rfl | (simp; done)))) | with_reducible refine ct_drew ?_ | with_reducible refine ct_drewN _ ?_ | with_reducible refine ct_below hb3 ?_ | ((with_reducible refine ct_new ?_ ?_); (focus (first | with_reducible rfl | (simp only [World.size_alloc, World.size_setCell, World.size_drew, size_drewN]; done))); (focus (first | rfl | (simp; done)))) | with_reducible refine ct_set _ _ ?_ | with_reducible refine ct_alloc _ ?_ | ((with_reducible refine kc_set ?_ ?_); (focus (first | (intro hx; injection hx; omega) | (simp; done)))) | with_reducible refine kc_alloc _ ?_ | ((with_reducible refine kf_new ?_ _); (focus (first | with_reducible rfl | (simp only [World.size_alloc, World.size_setCell, World.size_drew, size_drewN]; done)))) | with_reducible refine kf_set _ _ ?_ | ((with_reducible refine kf_below hb3 ?_ ?_); (focus (simp only [World.size_alloc, World.size_setCell, World.size_drew, size_drewN]; omega))) | ((with_reducible refine kf_alloc _ ?_ ?_); (focus (first | (simp only [World.size_alloc, World.size_setCell, World.size_drew, size_drewN]; omega) | (dsimp only; omega)))) | with_reducible refine bl_alloc ?_ _ | with_reducible refine bl_drew ?_ | with_reducible refine bl_drewN ?_ _ | ((with_reducible refine bl_set ?_ ?_ _); (focus (dsimp only; omega))) | with_reducible refine bl_call ?_ hb3 | with_reducible refine gro_alloc ?_ _ | with_reducible refine gro_drew ?_ | with_reducible refine gro_drewN ?_ _ | ((with_reducible refine gro_set ?_ ?_ _); (focus (first | omega | (dsimp only; omega)))) | with_reducible refine gro_call ?_ hk3))
      have f20 : w2.frozen? ⟨w.heap.size + 1 + 1, 0, none⟩ = false := by (repeat (first | with_reducible rfl | with_reducible exact Below.refl _ _ | with_reducible exact gro_refl _ | with_reducible refine kc_drew ?_ | with_reducible refine kc_drewN _ ?_ | with_reducible refine kf_drew ?_ | with_reducible refine kf_drewN _ ?_ | with_reducible refine kc_below hb3 ?_ | ((with_reducible refine kc_new ?_ ?_); (focus (first | with_reducible rfl | (simp only [World.size_alloc, World.size_setCell, World.size_drew, size_drewN]; done))); (focus (first | rfl | (simp; done)))) | ((with_reducible refine kc_set0 ?_ ?_); (focus (first | rfl | (simp; done)))) | with_reducible refine ct_drew ?_ | with_reducible refine ct_drewN _ ?_ | with_reducible refine ct_below hb3 ?_ | ((with_reducible refine ct_new ?_ ?_); (focus (first | with_reducible rfl | (simp only [World.size_alloc, World.size_setCell, World.size_drew, size_drewN]; done))); (focus (first | rfl | (simp; done)))) | with_reducible refine ct_set _ _ ?_ | with_reducible refine ct_alloc _ ?_ | ((with_reducible refine kc_set ?_ ?_); (focus (first | (intro hx; injection hx; omega) | (simp; done)))) | with_reducible refine kc_alloc _ ?_ | ((with_reducible refine kf_new ?_ _); (focus (first | with_reducible rfl | (simp only [World.size_alloc, World.size_setCell, World.size_drew, size_drewN]; done)))) | with_reducible refine kf_set _ _ ?_ | ((with_reducible refine kf_below hb3 ?_ ?_); (focus (simp only [World.size_alloc, World.size_setCell, World.size_drew, size_drewN]; omega))) | ((with_reducible refine kf_alloc _ ?_ ?_); (focus (first | (simp only [World.size_alloc, World.size_setCell, World.size_drew, size_drewN]; omega) | (dsimp only; omega)))) | with_reducible refine bl_alloc ?_ _ | with_reducible refine bl_drew ?_ | with_reducible refine bl_drewN ?_ _ | ((with_reducible refine bl_set ?_ ?_ _); (focus (dsimp only; omega))) | with_reducible refine bl_call ?_ hb3 | with_reducible refine gro_alloc ?_ _ | with_reducible refine gro_drew ?_ | with_reducible refine gro_drewN ?_ _ | ((with_reducible refine gro_set ?_ ?_ _); (focus (first | omega | (dsimp only; omega)))) | with_reducible refine gro_call ?_ hk3))
      have f21 : w2.frozen? ⟨w.heap.size + 1 + 1, 1, none⟩ = false := by (repeat (first | with_reducible rfl | with_reducible exact Below.refl _ _ | with_reducible exact gro_refl _ | with_reducible refine kc_drew ?_ | with_reducible refine kc_drewN _ ?_ | with_reducible refine kf_drew ?_ | with_reducible refine kf_drewN _ ?_ | with_reducible refine kc_below hb3 ?_ | ((with_reducible refine kc_new ?_ ?_); (focus (first | with_reducible rfl | (simp only [World.size_alloc, World.size_setCell, World.size_drew, size_drewN]; done))); (focus (first | rfl | (simp; done)))) | ((with_reducible refine kc_set0 ?_ ?_); (focus (first | rfl | (simp; done)))) | with_reducible refine ct_drew ?_ | with_reducible refine ct_drewN _ ?_ | with_reducible refine ct_below hb3 ?_ | ((with_reducible refine ct_new ?_ ?_); (focus (first | with_reducible rfl | (simp only [World.size_alloc, World.size_setCell, World.size_drew, size_drewN]; done))); (focus (first | rfl | (simp; done)))) | with_reducible refine ct_set _ _ ?_ | with_reducible refine ct_alloc _ ?_ | ((with_reducible refine kc_set ?_ ?_); (focus (first | (intro hx; injection hx; omega) | (simp; done)))) | with_reducible refine kc_alloc _ ?_ | ((with_reducible refine kf_new ?_ _); (focus (first | with_reducible rfl | (simp only [World.size_alloc, World.size_setCell, World.size_drew, size_drewN]; done)))) | with_reducible refine kf_set _ _ ?_ | ((with_reducible refine kf_below hb3 ?_ ?_); (focus (simp only [World.size_alloc, World.size_setCell, World.size_drew, size_drewN]; omega))) | ((with_reducible refine kf_alloc _ ?_ ?_); (focus (first | (simp only [World.size_alloc, World.size_setCell, World.size_drew, size_drewN]; omega) | (dsimp only; omega)))) | with_reducible refine bl_alloc ?_ _ | with_reducible refine bl_drew ?_ | with_reducible refine bl_drewN ?_ _ | ((with_reducible refine bl_set ?_ ?_ _); (focus (dsimp only; omega))) | with_reducible refine bl_call ?_ hb3 | with_reducible refine gro_alloc ?_ _ | with_reducible refine gro_drew ?_ | with_reducible refine gro_drewN ?_ _ | ((with_reducible refine gro_set ?_ ?_ _); (focus (first | omega | (dsimp only; omega)))) | with_reducible refine gro_call ?_ hk3))
      cases minus
      · go_wp2_with fail
        exact bodyPost_ret (v := .tuple #[.agg #[.int .i64 b, .int .i64 d], .int .i64 0]) (by simp [results, Try.results55, go_sem, h20, h21, hg, Nat.ne_of_lt hg]) rfl ⟨by (repeat (first | with_reducible rfl | with_reducible exact Below.refl _ _ | with_reducible exact gro_refl _ | with_reducible refine kc_drew ?_ | with_reducible refine kc_drewN _ ?_ | with_reducible refine kf_drew ?_ | with_reducible refine kf_drewN _ ?_ | with_reducible refine kc_below hb3 ?_ | ((with_reducible refine kc_new ?_ ?_); (focus (first | with_reducible rfl | (simp only [World.size_alloc, World.size_setCell, World.size_drew, size_drewN]; done))); (focus (first | rfl | (simp; done)))) | ((with_reducible refine kc_set0 ?_ ?_); (focus (first | rfl | (simp; done)))) | with_reducible refine ct_drew ?_ | with_reducible refine ct_drewN _ ?_ | with_reducible refine ct_below hb3 ?_ | ((with_reducible refine ct_new ?_ ?_); (focus (first | with_reducible rfl | (simp only [World.size_alloc, World.size_setCell, World.size_drew, size_drewN]; done))); (focus (first | rfl | (simp; done)))) | with_reducible refine ct_set _ _ ?_ | with_reducible refine ct_alloc _ ?_ | ((with_reducible refine kc_set ?_ ?_); (focus (first | (intro hx; injection hx; omega) | (simp; done)))) | with_reducible refine kc_alloc _ ?_ | ((with_reducible refine kf_new ?_ _); (focus (first | with_reducible rfl | (simp only [World.size_alloc, World.size_setCell, World.size_drew, size_drewN]; done)))) | with_reducible refine kf_set _ _ ?_ | ((with_reducible refine kf_below hb3 ?_ ?_); (focus (simp only [World.size_alloc, World.size_setCell, World.size_drew, size_drewN]; omega))) | ((with_reducible refine kf_alloc _ ?_ ?_); (focus (first | (simp only [World.size_alloc, World.size_setCell, World.size_drew, size_drewN]; omega) | (dsimp only; omega)))) | with_reducible refine bl_alloc ?_ _ | with_reducible refine bl_drew ?_ | with_reducible refine bl_drewN ?_ _ | ((with_reducible refine bl_set ?_ ?_ _); (focus (dsimp only; omega))) | with_reducible refine bl_call ?_ hb3 | with_reducible refine gro_alloc ?_ _ | with_reducible refine gro_drew ?_ | with_reducible refine gro_drewN ?_ _ | ((with_reducible refine gro_set ?_ ?_ _); (focus (first | omega | (dsimp only; omega)))) | with_reducible refine gro_call ?_ hk3)), Or.inr ⟨⟨hsm, hsm2⟩, by rw [e1, e2]; rfl⟩⟩
      · go_wp2_with (go_at_call 63; refine (negative_gro _ _ _ (by omega) (by omega)).mono ?_; rintro e w4 ⟨rfl, hk4⟩; have hb4 := hk4.below; obtain ⟨hcc4, hff4⟩ := bcell hb4; simp only [World.size_alloc] at hcc4 hff4; have hz4 := hb4.size; simp only [World.size_alloc] at hz4; have hg4 : w.heap.size + 1 + 1 < w4.heap.size := (by omega); have h40 : w4.cell? ⟨w.heap.size + 1 + 1, 0, none⟩ = some (.int .i64 0) := (by (repeat (first | with_reducible exact h20 | with_reducible rfl | with_reducible exact Below.refl _ _ | with_reducible exact gro_refl _ | with_reducible refine kc_drew ?_ | with_reducible refine kc_drewN _ ?_ | with_reducible refine kf_drew ?_ | with_reducible refine kf_drewN _ ?_ | with_reducible refine kc_below hb4 ?_ | ((with_reducible refine kc_new ?_ ?_); (focus (first | with_reducible rfl | (simp only [World.size_alloc, World.size_setCell, World.size_drew, size_drewN]; done))); (focus (first | rfl | (simp; done)))) | ((with_reducible refine kc_set0 ?_ ?_); (focus (first | rfl | (simp; done)))) | with_reducible exact ct_of (h20) | with_reducible refine ct_drew ?_ | with_reducible refine ct_drewN _ ?_ | with_reducible refine ct_below hb4 ?_ | ((with_reducible refine ct_new ?_ ?_); (focus (first | with_reducible rfl | (simp only [World.size_alloc, World.size_setCell, World.size_drew, size_drewN]; done))); (focus (first | rfl | (simp; done)))) | with_reducible refine ct_set _ _ ?_ | with_reducible refine ct_alloc _ ?_ | ((with_reducible refine kc_set ?_ ?_); (focus (first | (intro hx; injection hx; omega) | (simp; done)))) | with_reducible refine kc_alloc _ ?_ | ((with_reducible refine kf_new ?_ _); (focus (first | with_reducible rfl | (simp only [World.size_alloc, World.size_setCell, World.size_drew, size_drewN]; done)))) | with_reducible refine kf_set _ _ ?_ | ((with_reducible refine kf_below hb4 ?_ ?_); (focus (simp only [World.size_alloc, World.size_setCell, World.size_drew, size_drewN]; omega))) | ((with_reducible refine kf_alloc _ ?_ ?_); (focus (first | (simp only [World.size_alloc, World.size_setCell, World.size_drew, size_drewN]; omega) | (dsimp only; omega)))) | with_reducible refine bl_alloc ?_ _ | with_reducible refine bl_drew ?_ | with_reducible refine bl_drewN ?_ _ | ((with_reducible refine bl_set ?_ ?_ _); (focus (dsimp only; omega))) | with_reducible refine bl_call ?_ hb4 | with_reducible refine gro_alloc ?_ _ | with_reducible refine gro_drew ?_ | with_reducible refine gro_drewN ?_ _ | ((with_reducible refine gro_set ?_ ?_ _); (focus (first | omega | (dsimp only; omega)))) | with_reducible refine gro_call ?_ hk4))); have h41 : w4.cell? ⟨w.heap.size + 1 + 1, 1, none⟩ = some (.int .i64 0) := (by (repeat (first | with_reducible exact h21 | with_reducible rfl | with_reducible exact Below.refl _ _ | with_reducible exact gro_refl _ | with_reducible refine kc_drew ?_ | with_reducible refine kc_drewN _ ?_ | with_reducible refine kf_drew ?_ | with_reducible refine kf_drewN _ ?_ | with_reducible refine kc_below hb4 ?_ | ((with_reducible refine kc_new ?_ ?_); (focus (first | with_reducible rfl | (simp only [World.size_alloc, World.size_setCell, World.size_drew, size_drewN]; done))); (focus (first | rfl | (simp; done)))) | ((with_reducible refine kc_set0 ?_ ?_); (focus (first | rfl | (simp; done)))) | with_reducible exact ct_of (h21) | with_reducible refine ct_drew ?_ | with_reducible refine ct_drewN _ ?_ | with_reducible refine ct_below hb4 ?_ | ((with_reducible refine ct_new ?_ ?_); (focus (first | with_reducible rfl | (simp only [World.size_alloc, World.size_setCell, World.size_drew, size_drewN]; done))); (focus (first | rfl | (simp; done)))) | with_reducible refine ct_set _ _ ?_ | with_reducible refine ct_alloc _ ?_ | ((with_reducible refine kc_set ?_ ?_); (focus (first | (intro hx; injection hx; omega) | (simp; done)))) | with_reducible refine kc_alloc _ ?_ | ((with_reducible refine kf_new ?_ _); (focus (first | with_reducible rfl | (simp only [World.size_alloc, World.size_setCell, World.size_drew, size_drewN]; done)))) | with_reducible refine kf_set _ _ ?_ | ((with_reducible refine kf_below hb4 ?_ ?_); (focus (simp only [World.size_alloc, World.size_setCell, World.size_drew, size_drewN]; omega))) | ((with_reducible refine kf_alloc _ ?_ ?_); (focus (first | (simp only [World.size_alloc, World.size_setCell, World.size_drew, size_drewN]; omega) | (dsimp only; omega)))) | with_reducible refine bl_alloc ?_ _ | with_reducible refine bl_drew ?_ | with_reducible refine bl_drewN ?_ _ | ((with_reducible refine bl_set ?_ ?_ _); (focus (dsimp only; omega))) | with_reducible refine bl_call ?_ hb4 | with_reducible refine gro_alloc ?_ _ | with_reducible refine gro_drew ?_ | with_reducible refine gro_drewN ?_ _ | ((with_reducible refine gro_set ?_ ?_ _); (focus (first | omega | (dsimp only; omega)))) | with_reducible refine gro_call ?_ hk4))); have f40 : w4.frozen? ⟨w.heap.size + 1 + 1, 0, none⟩ = false := (by (repeat (first | with_reducible exact f20 | with_reducible rfl | with_reducible exact Below.refl _ _ | with_reducible exact gro_refl _ | with_reducible refine kc_drew ?_ | with_reducible refine kc_drewN _ ?_ | with_reducible refine kf_drew ?_ | with_reducible refine kf_drewN _ ?_ | with_reducible refine kc_below hb4 ?_ | ((with_reducible refine kc_new ?_ ?_); (focus (first | with_reducible rfl | (simp only [World.size_alloc, World.size_setCell, World.size_drew, size_drewN]; done))); (focus (first | rfl | (simp; done)))) | ((with_reducible refine kc_set0 ?_ ?_); (focus (first | rfl | (simp; done)))) | with_reducible exact ct_of (f20) | with_reducible refine ct_drew ?_ | with_reducible refine ct_drewN _ ?_ | with_reducible refine ct_below hb4 ?_ | ((with_reducible refine ct_new ?_ ?_); (focus (first | with_reducible rfl | (simp only [World.size_alloc, World.size_setCell, World.size_drew, size_drewN]; done))); (focus (first | rfl | (simp; done)))) | with_reducible refine ct_set _ _ ?_ | with_reducible refine ct_alloc _ ?_ | ((with_reducible refine kc_set ?_ ?_); (focus (first | (intro hx; injection hx; omega) | (simp; done)))) | with_reducible refine kc_alloc _ ?_ | ((with_reducible refine kf_new ?_ _); (focus (first | with_reducible rfl | (simp only [World.size_alloc, World.size_setCell, World.size_drew, size_drewN]; done)))) | with_reducible refine kf_set _ _ ?_ | ((with_reducible refine kf_below hb4 ?_ ?_); (focus (simp only [World.size_alloc, World.size_setCell, World.size_drew, size_drewN]; omega))) | ((with_reducible refine kf_alloc _ ?_ ?_); (focus (first | (simp only [World.size_alloc, World.size_setCell, World.size_drew, size_drewN]; omega) | (dsimp only; omega)))) | with_reducible refine bl_alloc ?_ _ | with_reducible refine bl_drew ?_ | with_reducible refine bl_drewN ?_ _ | ((with_reducible refine bl_set ?_ ?_ _); (focus (dsimp only; omega))) | with_reducible refine bl_call ?_ hb4 | with_reducible refine gro_alloc ?_ _ | with_reducible refine gro_drew ?_ | with_reducible refine gro_drewN ?_ _ | ((with_reducible refine gro_set ?_ ?_ _); (focus (first | omega | (dsimp only; omega)))) | with_reducible refine gro_call ?_ hk4))); have f41 : w4.frozen? ⟨w.heap.size + 1 + 1, 1, none⟩ = false := (by (repeat (first | with_reducible exact f21 | with_reducible rfl | with_reducible exact Below.refl _ _ | with_reducible exact gro_refl _ | with_reducible refine kc_drew ?_ | with_reducible refine kc_drewN _ ?_ | with_reducible refine kf_drew ?_ | with_reducible refine kf_drewN _ ?_ | with_reducible refine kc_below hb4 ?_ | ((with_reducible refine kc_new ?_ ?_); (focus (first | with_reducible rfl | (simp only [World.size_alloc, World.size_setCell, World.size_drew, size_drewN]; done))); (focus (first | rfl | (simp; done)))) | ((with_reducible refine kc_set0 ?_ ?_); (focus (first | rfl | (simp; done)))) | with_reducible exact ct_of (f21) | with_reducible refine ct_drew ?_ | with_reducible refine ct_drewN _ ?_ | with_reducible refine ct_below hb4 ?_ | ((with_reducible refine ct_new ?_ ?_); (focus (first | with_reducible rfl | (simp only [World.size_alloc, World.size_setCell, World.size_drew, size_drewN]; done))); (focus (first | rfl | (simp; done)))) | with_reducible refine ct_set _ _ ?_ | with_reducible refine ct_alloc _ ?_ | ((with_reducible refine kc_set ?_ ?_); (focus (first | (intro hx; injection hx; omega) | (simp; done)))) | with_reducible refine kc_alloc _ ?_ | ((with_reducible refine kf_new ?_ _); (focus (first | with_reducible rfl | (simp only [World.size_alloc, World.size_setCell, World.size_drew, size_drewN]; done)))) | with_reducible refine kf_set _ _ ?_ | ((with_reducible refine kf_below hb4 ?_ ?_); (focus (simp only [World.size_alloc, World.size_setCell, World.size_drew, size_drewN]; omega))) | ((with_reducible refine kf_alloc _ ?_ ?_); (focus (first | (simp only [World.size_alloc, World.size_setCell, World.size_drew, size_drewN]; omega) | (dsimp only; omega)))) | with_reducible refine bl_alloc ?_ _ | with_reducible refine bl_drew ?_ | with_reducible refine bl_drewN ?_ _ | ((with_reducible refine bl_set ?_ ?_ _); (focus (dsimp only; omega))) | with_reducible refine bl_call ?_ hb4 | with_reducible refine gro_alloc ?_ _ | with_reducible refine gro_drew ?_ | with_reducible refine gro_drewN ?_ _ | ((with_reducible refine gro_set ?_ ?_ _); (focus (first | omega | (dsimp only; omega)))) | with_reducible refine gro_call ?_ hk4))))
        exact bodyPost_ret (v := .tuple #[.agg #[.int .i64 (-b), .int .i64 d], .int .i64 0]) (by simp [results, Try.results55, go_sem, h40, h41, hg4, Nat.ne_of_lt hg4]) rfl ⟨by (repeat (first | with_reducible rfl | with_reducible exact Below.refl _ _ | with_reducible exact gro_refl _ | with_reducible refine kc_drew ?_ | with_reducible refine kc_drewN _ ?_ | with_reducible refine kf_drew ?_ | with_reducible refine kf_drewN _ ?_ | with_reducible refine kc_below hb4 ?_ | with_reducible refine kc_below hb3 ?_ | ((with_reducible refine kc_new ?_ ?_); (focus (first | with_reducible rfl | (simp only [World.size_alloc, World.size_setCell, World.size_drew, size_drewN]; done))); (focus (first | rfl | (simp; done)))) | ((with_reducible refine kc_set0 ?_ ?_); (focus (first | rfl | (simp; done)))) | with_reducible refine ct_drew ?_ | with_reducible refine ct_drewN _ ?_ | with_reducible refine ct_below hb4 ?_ | with_reducible refine ct_below hb3 ?_ | ((with_reducible refine ct_new ?_ ?_); (focus (first | with_reducible rfl | (simp only [World.size_alloc, World.size_setCell, World.size_drew, size_drewN]; done))); (focus (first | rfl | (simp; done)))) | with_reducible refine ct_set _ _ ?_ | with_reducible refine ct_alloc _ ?_ | ((with_reducible refine kc_set ?_ ?_); (focus (first | (intro hx; injection hx; omega) | (simp; done)))) | with_reducible refine kc_alloc _ ?_ | ((with_reducible refine kf_new ?_ _); (focus (first | with_reducible rfl | (simp only [World.size_alloc, World.size_setCell, World.size_drew, size_drewN]; done)))) | with_reducible refine kf_set _ _ ?_ | ((with_reducible refine kf_below hb4 ?_ ?_); (focus (simp only [World.size_alloc, World.size_setCell, World.size_drew, size_drewN]; omega))) | ((with_reducible refine kf_below hb3 ?_ ?_); (focus (simp only [World.size_alloc, World.size_setCell, World.size_drew, size_drewN]; omega))) | ((with_reducible refine kf_alloc _ ?_ ?_); (focus (first | (simp only [World.size_alloc, World.size_setCell, World.size_drew, size_drewN]; omega) | (dsimp only; omega)))) | with_reducible refine bl_alloc ?_ _ | with_reducible refine bl_drew ?_ | with_reducible refine bl_drewN ?_ _ | ((with_reducible refine bl_set ?_ ?_ _); (focus (dsimp only; omega))) | with_reducible refine bl_call ?_ hb4 | with_reducible refine bl_call ?_ hb3 | with_reducible refine gro_alloc ?_ _ | with_reducible refine gro_drew ?_ | with_reducible refine gro_drewN ?_ _ | ((with_reducible refine gro_set ?_ ?_ _); (focus (first | omega | (dsimp only; omega)))) | with_reducible refine gro_call ?_ hk4 | with_reducible refine gro_call ?_ hk3)), Or.inr ⟨⟨hsm, hsm2⟩, by rw [e1, e2]; rfl⟩⟩

theorem frac_ex {minus : Bool} {x y : Int} {e : Ending} (h : (4611686018427387904 < x ∨ 4611686018427387904 < y) ∧ e = .returned (.tuple #[.agg #[.int .i64 0, .int .i64 0], .int .i64 5]) ∨
    (x ≤ 4611686018427387904 ∧ y ≤ 4611686018427387904) ∧ e = .returned (.tuple #[.agg #[.int .i64 (if minus = true then -x else x), .int .i64 y], .int .i64 0])) :
    ∃ p q c : Int, e = .returned (.tuple #[.agg #[.int .i64 p, .int .i64 q], .int .i64 c]) ∧ ((4611686018427387904 < x ∨ 4611686018427387904 < y) ∧ p = 0 ∧ q = 0 ∧ c = 5 ∨
    (x ≤ 4611686018427387904 ∧ y ≤ 4611686018427387904) ∧ p = (if minus = true then -x else x) ∧ q = y ∧ c = 0) := by
  rcases h with ⟨h, rfl⟩ | ⟨h, rfl⟩
  · exact ⟨_, _, _, rfl, Or.inl ⟨h, rfl, rfl, rfl⟩⟩
  · exact ⟨_, _, _, rfl, Or.inr ⟨h, rfl, rfl, rfl⟩⟩

/-- What Make returns. -/
def MakeE (num den : Int) (e : Ending) : Prop :=
  (den = 0 ∧ e = .returned (.tuple #[.agg #[.int .i64 0, .int .i64 0], .int .i64 4])) ∨
  (den ≠ 0 ∧ ∀ x y : Int, x = (num.natAbs / Nat.gcd num.natAbs den.natAbs : Nat) → y = (den.natAbs / Nat.gcd num.natAbs den.natAbs : Nat) →
    ((4611686018427387904 < x ∨ 4611686018427387904 < y) ∧ e = .returned (.tuple #[.agg #[.int .i64 0, .int .i64 0], .int .i64 5]) ∨
    (x ≤ 4611686018427387904 ∧ y ≤ 4611686018427387904) ∧ e = .returned (.tuple #[.agg #[.int .i64 (if (decide (num < 0) != decide (den < 0)) = true then -x else x), .int .i64 y], .int .i64 0])))

set_option maxHeartbeats 2000000 in
set_option maxRecDepth 100000 in
theorem make_any (num den : Int) (w : World) (hn : -9223372036854775808 ≤ num) (hn' : num ≤ 9223372036854775807) (hd : -9223372036854775808 ≤ den) (hd' : den ≤ 9223372036854775807) :
    Calls Try.prog 17 #[.int .i64 num, .int .i64 den] w fun e w' => Gro w w' ∧ MakeE num den e := by
  by_cases h0 : den = 0
  · subst h0
    go_enter Try.func17, Try.ntmps17
    go_wp2
    exact bodyPost_ret (v := .tuple #[.agg #[.int .i64 0, .int .i64 0], .int .i64 4]) (by simp [results, Try.results17, go_sem]) rfl ⟨by (repeat (first | with_reducible rfl | with_reducible exact Below.refl _ _ | with_reducible exact gro_refl _ | with_reducible refine kc_drew ?_ | with_reducible refine kc_drewN _ ?_ | with_reducible refine kf_drew ?_ | with_reducible refine kf_drewN _ ?_ | ((with_reducible refine kc_new ?_ ?_); (focus (first | with_reducible rfl | (simp only [World.size_alloc, World.size_setCell, World.size_drew, size_drewN]; done))); (focus (first | rfl | (simp; done)))) | ((with_reducible refine kc_set0 ?_ ?_); (focus (first | rfl | (simp; done)))) | with_reducible refine ct_drew ?_ | with_reducible refine ct_drewN _ ?_ | ((with_reducible refine ct_new ?_ ?_); (focus (first | with_reducible rfl | (simp only [World.size_alloc, World.size_setCell, World.size_drew, size_drewN]; done))); (focus (first | rfl | (simp; done)))) | with_reducible refine ct_set _ _ ?_ | with_reducible refine ct_alloc _ ?_ | ((with_reducible refine kc_set ?_ ?_); (focus (first | (intro hx; injection hx; omega) | (simp; done)))) | with_reducible refine kc_alloc _ ?_ | ((with_reducible refine kf_new ?_ _); (focus (first | with_reducible rfl | (simp only [World.size_alloc, World.size_setCell, World.size_drew, size_drewN]; done)))) | with_reducible refine kf_set _ _ ?_ | ((with_reducible refine kf_alloc _ ?_ ?_); (focus (first | (simp only [World.size_alloc, World.size_setCell, World.size_drew, size_drewN]; omega) | (dsimp only; omega)))) | with_reducible refine bl_alloc ?_ _ | with_reducible refine bl_drew ?_ | with_reducible refine bl_drewN ?_ _ | ((with_reducible refine bl_set ?_ ?_ _); (focus (dsimp only; omega))) | with_reducible refine gro_alloc ?_ _ | with_reducible refine gro_drew ?_ | with_reducible refine gro_drewN ?_ _ | ((with_reducible refine gro_set ?_ ?_ _); (focus (first | omega | (dsimp only; omega)))))), Or.inl ⟨rfl, rfl⟩⟩
  · have hgc := gcd_any num.natAbs den.natAbs
    have hpos : 0 < Nat.gcd num.natAbs den.natAbs := Nat.gcd_pos_of_pos_right _ (by omega)
    have hxle : num.natAbs / Nat.gcd num.natAbs den.natAbs ≤ num.natAbs := Nat.div_le_self _ _
    have hyle : den.natAbs / Nat.gcd num.natAbs den.natAbs ≤ den.natAbs := Nat.div_le_self _ _
    have ex : ((num.natAbs / Nat.gcd num.natAbs den.natAbs : Nat) : Int) = (num.natAbs : Int) / ((Nat.gcd num.natAbs den.natAbs : Nat) : Int) := by simp
    have ey : ((den.natAbs / Nat.gcd num.natAbs den.natAbs : Nat) : Int) = (den.natAbs : Int) / ((Nat.gcd num.natAbs den.natAbs : Nat) : Int) := by simp
    have hbool : (den == 0) = false := by simpa using h0
    generalize hX : num.natAbs / Nat.gcd num.natAbs den.natAbs = X at *
    generalize hY : den.natAbs / Nat.gcd num.natAbs den.natAbs = Y at *
    have Q := Lib.hid (show ∀ e, ((4611686018427387904 < (X : Int) ∨ 4611686018427387904 < (Y : Int)) ∧ e = .returned (.tuple #[.agg #[.int .i64 0, .int .i64 0], .int .i64 5]) ∨
      ((X : Int) ≤ 4611686018427387904 ∧ (Y : Int) ≤ 4611686018427387904) ∧ e = .returned (.tuple #[.agg #[.int .i64 (if (decide (num < 0) != decide (den < 0)) = true then -(X : Int) else (X : Int)), .int .i64 (Y : Int)], .int .i64 0])) → MakeE num den e from fun e h => Or.inr ⟨h0, fun x y hx hy => by rw [hX] at hx; rw [hY] at hy; subst hx; subst hy; exact h⟩)
    generalize Nat.gcd num.natAbs den.natAbs = g at *
    clear hX hY
    have hgi : (g : Int) ≠ 0 := by omega
    have hgb : ((g : Int) == 0) = false := by simpa using hgi
    generalize ((g : Nat) : Int) = G at *
    have hX2 : (X : Int) ≤ 18446744073709551615 := by omega
    have hY2 : (Y : Int) ≤ 18446744073709551615 := by omega
    replace ex := ex.symm
    replace ey := ey.symm
    have wx : IntKind.u64.wrap (X : Int) = X := by rw [IntKind.wrap_u64]; omega
    have wy : IntKind.u64.wrap (Y : Int) = Y := by rw [IntKind.wrap_u64]; omega
    go_enter Try.func17, Try.ntmps17
    go_wp2_with (first | (go_at_call 53; refine (mag_any _ _ (by omega) (by omega)).mono ?_; rintro e w' ⟨rfl, rfl⟩) | (go_at_call 54; refine (hgc _ (by omega) (by omega)).mono ?_; rintro e w' ⟨rfl, k, rfl⟩))
    go_region_held3 (fun w' => (there w' ⟨w.heap.size, 0, none⟩ ∧ there w' ⟨w.heap.size, 1, none⟩) ∧ (w'.frozen? ⟨w.heap.size, 0, none⟩ = false ∧ w'.frozen? ⟨w.heap.size, 1, none⟩ = false))
      (((try dsimp only); (repeat' apply And.intro)) <;> (repeat (first | with_reducible rfl | with_reducible exact Below.refl _ _ | with_reducible exact gro_refl _ | with_reducible refine kc_drew ?_ | with_reducible refine kc_drewN _ ?_ | with_reducible refine kf_drew ?_ | with_reducible refine kf_drewN _ ?_ | with_reducible refine kc_below hb1 ?_ | ((with_reducible refine kc_new ?_ ?_); (focus (first | with_reducible rfl | (simp only [World.size_alloc, World.size_setCell, World.size_drew, size_drewN]; done))); (focus (first | rfl | (simp; done)))) | ((with_reducible refine kc_set0 ?_ ?_); (focus (first | rfl | (simp; done)))) | with_reducible refine ct_drew ?_ | with_reducible refine ct_drewN _ ?_ | with_reducible refine ct_below hb1 ?_ | ((with_reducible refine ct_new ?_ ?_); (focus (first | with_reducible rfl | (simp only [World.size_alloc, World.size_setCell, World.size_drew, size_drewN]; done))); (focus (first | rfl | (simp; done)))) | with_reducible refine ct_set _ _ ?_ | with_reducible refine ct_alloc _ ?_ | ((with_reducible refine kc_set ?_ ?_); (focus (first | (intro hx; injection hx; omega) | (simp; done)))) | with_reducible refine kc_alloc _ ?_ | ((with_reducible refine kf_new ?_ _); (focus (first | with_reducible rfl | (simp only [World.size_alloc, World.size_setCell, World.size_drew, size_drewN]; done)))) | with_reducible refine kf_set _ _ ?_ | ((with_reducible refine kf_below hb1 ?_ ?_); (focus (simp only [World.size_alloc, World.size_setCell, World.size_drew, size_drewN]; omega))) | ((with_reducible refine kf_alloc _ ?_ ?_); (focus (first | (simp only [World.size_alloc, World.size_setCell, World.size_drew, size_drewN]; omega) | (dsimp only; omega)))) | with_reducible refine bl_alloc ?_ _ | with_reducible refine bl_drew ?_ | with_reducible refine bl_drewN ?_ _ | ((with_reducible refine bl_set ?_ ?_ _); (focus (dsimp only; omega))) | with_reducible refine bl_call ?_ hb1 | with_reducible refine gro_alloc ?_ _ | with_reducible refine gro_drew ?_ | with_reducible refine gro_drewN ?_ _ | ((with_reducible refine gro_set ?_ ?_ _); (focus (first | omega | (dsimp only; omega)))) | with_reducible refine gro_call ?_ hk1)))
      ((go_at_call 55; refine (fraction_any _ 0 _ 0 _ _ (by omega) (by omega) (by omega) (by omega) (by omega) (by omega) (by omega) (by omega)).mono ?_; rintro e w1 ⟨hk1, hE⟩; have hb1 := hk1.below; obtain ⟨hc1, hf1⟩ := bcell hb1; simp only [World.size_alloc, World.size_drew, size_drewN] at hc1 hf1; have hz1 : w.heap.size + 1 ≤ w1.heap.size := (by have := hb1.size; simp only [World.size_alloc, World.size_drew, size_drewN] at this; omega); obtain ⟨p, q, c, rfl, hR⟩ := frac_ex hE; have hg1 : w.heap.size < w1.heap.size := (by omega); have b0 : w1.cell? ⟨w.heap.size, 0, none⟩ = some (.int .i64 0) := (by (repeat (first | with_reducible rfl | with_reducible exact Below.refl _ _ | with_reducible exact gro_refl _ | with_reducible refine kc_drew ?_ | with_reducible refine kc_drewN _ ?_ | with_reducible refine kf_drew ?_ | with_reducible refine kf_drewN _ ?_ | with_reducible refine kc_below hb1 ?_ | ((with_reducible refine kc_new ?_ ?_); (focus (first | with_reducible rfl | (simp only [World.size_alloc, World.size_setCell, World.size_drew, size_drewN]; done))); (focus (first | rfl | (simp; done)))) | ((with_reducible refine kc_set0 ?_ ?_); (focus (first | rfl | (simp; done)))) | with_reducible refine ct_drew ?_ | with_reducible refine ct_drewN _ ?_ | with_reducible refine ct_below hb1 ?_ | ((with_reducible refine ct_new ?_ ?_); (focus (first | with_reducible rfl | (simp only [World.size_alloc, World.size_setCell, World.size_drew, size_drewN]; done))); (focus (first | rfl | (simp; done)))) | with_reducible refine ct_set _ _ ?_ | with_reducible refine ct_alloc _ ?_ | ((with_reducible refine kc_set ?_ ?_); (focus (first | (intro hx; injection hx; omega) | (simp; done)))) | with_reducible refine kc_alloc _ ?_ | ((with_reducible refine kf_new ?_ _); (focus (first | with_reducible rfl | (simp only [World.size_alloc, World.size_setCell, World.size_drew, size_drewN]; done)))) | with_reducible refine kf_set _ _ ?_ | ((with_reducible refine kf_below hb1 ?_ ?_); (focus (simp only [World.size_alloc, World.size_setCell, World.size_drew, size_drewN]; omega))) | ((with_reducible refine kf_alloc _ ?_ ?_); (focus (first | (simp only [World.size_alloc, World.size_setCell, World.size_drew, size_drewN]; omega) | (dsimp only; omega)))) | with_reducible refine bl_alloc ?_ _ | with_reducible refine bl_drew ?_ | with_reducible refine bl_drewN ?_ _ | ((with_reducible refine bl_set ?_ ?_ _); (focus (dsimp only; omega))) | with_reducible refine bl_call ?_ hb1 | with_reducible refine gro_alloc ?_ _ | with_reducible refine gro_drew ?_ | with_reducible refine gro_drewN ?_ _ | ((with_reducible refine gro_set ?_ ?_ _); (focus (first | omega | (dsimp only; omega)))) | with_reducible refine gro_call ?_ hk1))); have b1 : w1.cell? ⟨w.heap.size, 1, none⟩ = some (.int .i64 0) := (by (repeat (first | with_reducible rfl | with_reducible exact Below.refl _ _ | with_reducible exact gro_refl _ | with_reducible refine kc_drew ?_ | with_reducible refine kc_drewN _ ?_ | with_reducible refine kf_drew ?_ | with_reducible refine kf_drewN _ ?_ | with_reducible refine kc_below hb1 ?_ | ((with_reducible refine kc_new ?_ ?_); (focus (first | with_reducible rfl | (simp only [World.size_alloc, World.size_setCell, World.size_drew, size_drewN]; done))); (focus (first | rfl | (simp; done)))) | ((with_reducible refine kc_set0 ?_ ?_); (focus (first | rfl | (simp; done)))) | with_reducible refine ct_drew ?_ | with_reducible refine ct_drewN _ ?_ | with_reducible refine ct_below hb1 ?_ | ((with_reducible refine ct_new ?_ ?_); (focus (first | with_reducible rfl | (simp only [World.size_alloc, World.size_setCell, World.size_drew, size_drewN]; done))); (focus (first | rfl | (simp; done)))) | with_reducible refine ct_set _ _ ?_ | with_reducible refine ct_alloc _ ?_ | ((with_reducible refine kc_set ?_ ?_); (focus (first | (intro hx; injection hx; omega) | (simp; done)))) | with_reducible refine kc_alloc _ ?_ | ((with_reducible refine kf_new ?_ _); (focus (first | with_reducible rfl | (simp only [World.size_alloc, World.size_setCell, World.size_drew, size_drewN]; done)))) | with_reducible refine kf_set _ _ ?_ | ((with_reducible refine kf_below hb1 ?_ ?_); (focus (simp only [World.size_alloc, World.size_setCell, World.size_drew, size_drewN]; omega))) | ((with_reducible refine kf_alloc _ ?_ ?_); (focus (first | (simp only [World.size_alloc, World.size_setCell, World.size_drew, size_drewN]; omega) | (dsimp only; omega)))) | with_reducible refine bl_alloc ?_ _ | with_reducible refine bl_drew ?_ | with_reducible refine bl_drewN ?_ _ | ((with_reducible refine bl_set ?_ ?_ _); (focus (dsimp only; omega))) | with_reducible refine bl_call ?_ hb1 | with_reducible refine gro_alloc ?_ _ | with_reducible refine gro_drew ?_ | with_reducible refine gro_drewN ?_ _ | ((with_reducible refine gro_set ?_ ?_ _); (focus (first | omega | (dsimp only; omega)))) | with_reducible refine gro_call ?_ hk1)))))
    all_goals go_wp2_with fail
    refine bodyPost_ret (v := .tuple #[.agg #[.int .i64 p, .int .i64 q], .int .i64 c]) (by simp [results, Try.results17, go_sem, hg1, Nat.ne_of_lt hg1, b0, b1]) rfl ⟨by (repeat (first | with_reducible rfl | with_reducible exact Below.refl _ _ | with_reducible exact gro_refl _ | with_reducible refine kc_drew ?_ | with_reducible refine kc_drewN _ ?_ | with_reducible refine kf_drew ?_ | with_reducible refine kf_drewN _ ?_ | with_reducible refine kc_below hb1 ?_ | ((with_reducible refine kc_new ?_ ?_); (focus (first | with_reducible rfl | (simp only [World.size_alloc, World.size_setCell, World.size_drew, size_drewN]; done))); (focus (first | rfl | (simp; done)))) | ((with_reducible refine kc_set0 ?_ ?_); (focus (first | rfl | (simp; done)))) | with_reducible refine ct_drew ?_ | with_reducible refine ct_drewN _ ?_ | with_reducible refine ct_below hb1 ?_ | ((with_reducible refine ct_new ?_ ?_); (focus (first | with_reducible rfl | (simp only [World.size_alloc, World.size_setCell, World.size_drew, size_drewN]; done))); (focus (first | rfl | (simp; done)))) | with_reducible refine ct_set _ _ ?_ | with_reducible refine ct_alloc _ ?_ | ((with_reducible refine kc_set ?_ ?_); (focus (first | (intro hx; injection hx; omega) | (simp; done)))) | with_reducible refine kc_alloc _ ?_ | ((with_reducible refine kf_new ?_ _); (focus (first | with_reducible rfl | (simp only [World.size_alloc, World.size_setCell, World.size_drew, size_drewN]; done)))) | with_reducible refine kf_set _ _ ?_ | ((with_reducible refine kf_below hb1 ?_ ?_); (focus (simp only [World.size_alloc, World.size_setCell, World.size_drew, size_drewN]; omega))) | ((with_reducible refine kf_alloc _ ?_ ?_); (focus (first | (simp only [World.size_alloc, World.size_setCell, World.size_drew, size_drewN]; omega) | (dsimp only; omega)))) | with_reducible refine bl_alloc ?_ _ | with_reducible refine bl_drew ?_ | with_reducible refine bl_drewN ?_ _ | ((with_reducible refine bl_set ?_ ?_ _); (focus (dsimp only; omega))) | with_reducible refine bl_call ?_ hb1 | with_reducible refine gro_alloc ?_ _ | with_reducible refine gro_drew ?_ | with_reducible refine gro_drewN ?_ _ | ((with_reducible refine gro_set ?_ ?_ _); (focus (first | omega | (dsimp only; omega)))) | with_reducible refine gro_call ?_ hk1)), Q.out _ ?_⟩
    rcases hR with ⟨h, rfl, rfl, rfl⟩ | ⟨h, rfl, rfl, rfl⟩
    · exact Or.inl ⟨h.imp (fun h => by rw [wv_zero] at h; exact h) (fun h => by rw [wv_zero] at h; exact h), rfl⟩
    · exact Or.inr ⟨⟨by have := h.1; rw [wv_zero] at this; exact this, by have := h.2; rw [wv_zero] at this; exact this⟩, by rw [wv_zero, wv_zero]; rfl⟩
end Go.Proofs.Ytoenimkgagndnaa

/- Walks of package gear on sides: with, compareSides, sides$1. -/
namespace Go.Proofs.Ytoenimkgagndnaa
set_option linter.unusedVariables false
set_option linter.unusedSimpArgs false
open Go.RowKit Go.Shelf Go.Lib Go.Sort

/-- A side's cells. -/
structure Side where
  a : Int
  b : Int
  c : Int
  p : Int
  s : Int
deriving DecidableEq, Inhabited

def Side.enc (x : Side) : List Value := [.int .i64 x.a, .int .i64 x.b, .int .i64 x.c, .int .i64 x.p, .int .i64 x.s]
def Side.val (x : Side) : Value := .agg #[.int .i64 x.a, .int .i64 x.b, .int .i64 x.c, .int .i64 x.p, .int .i64 x.s]

set_option maxHeartbeats 400000 in
theorem eqSides_any (a b c p s a' b' c' p' s' : Int) (w : World) :
    Calls Try.prog 124 #[.agg #[.int .i64 a, .int .i64 b, .int .i64 c, .int .i64 p, .int .i64 s], .agg #[.int .i64 a', .int .i64 b', .int .i64 c', .int .i64 p', .int .i64 s']] w fun e w' =>
      e = .returned (.bool (p == p')) ∧ ∃ q os', w' = grow (w.drewN q) os' := by
  go_enter Try.func124, Try.ntmps124
  go_wp2
  go_ret
  exact ⟨rfl, 0, _, by rw [alloc_eq_grow, alloc_eq_grow, grow_grow]; rfl⟩

/-- with: one more number of teeth. -/
def Side.with (x : Side) (i : Nat) (k : Int) : Side :=
  { a := if i = 0 then k else x.a, b := if i = 1 then k else x.b, c := if i = 2 then k else x.c, p := x.p * k, s := x.s + k }

set_option maxHeartbeats 400000 in
theorem with_any (x : Side) (i : Nat) (k : Int) (w : World) (hi : i < 3) (hk : 1 ≤ k) (hk' : k ≤ 200) (hp : 0 ≤ x.p) (hp' : x.p ≤ 40000) (hs : 0 ≤ x.s) (hs' : x.s ≤ 400) :
    Calls Try.prog 120 #[.agg #[.int .i64 x.a, .int .i64 x.b, .int .i64 x.c, .int .i64 x.p, .int .i64 x.s], .int .i64 i, .int .i64 k] w fun e w' => e = .returned (x.with i k).val ∧ Below w.heap.size w w' := by
  have hpk : 0 ≤ x.p * k ∧ x.p * k ≤ 8000000 := ⟨Int.mul_nonneg hp (by omega), by have := Int.mul_le_mul hp' hk' (by omega) (by omega : (0:Int) ≤ 40000); omega⟩
  have e0 : IntKind.i64.wrap (x.p * k) = x.p * k := IntWalk.i64_in _ (by omega)
  obtain ⟨a, b, c, p, s⟩ := x
  simp only at *
  rcases (show i = 0 ∨ i = 1 ∨ i = 2 by omega) with rfl | rfl | rfl
  all_goals
    go_enter Try.func120, Try.ntmps120
    go_wp2
  · exact bodyPost_ret (v := .agg #[.int .i64 k, .int .i64 b, .int .i64 c, .int .i64 (p * k), .int .i64 (s + k)]) (by simp [results, Try.results120, go_sem]) rfl ⟨rfl, bl_alloc (bl_alloc (Below.refl _ _) _) _⟩
  · exact bodyPost_ret (v := .agg #[.int .i64 a, .int .i64 k, .int .i64 c, .int .i64 (p * k), .int .i64 (s + k)]) (by simp [results, Try.results120, go_sem]) rfl ⟨rfl, bl_alloc (bl_alloc (Below.refl _ _) _) _⟩
  · exact bodyPost_ret (v := .agg #[.int .i64 a, .int .i64 b, .int .i64 k, .int .i64 (p * k), .int .i64 (s + k)]) (by simp [results, Try.results120, go_sem]) rfl ⟨rfl, bl_alloc (bl_alloc (Below.refl _ _) _) _⟩

/-- Three numbers compared lexicographically. -/
def lex3 (a b c a' b' c' : Int) : Int := if a ≠ a' then cmpZ a a' else if b ≠ b' then cmpZ b b' else cmpZ c c'

theorem cmpZ_ne {a b : Int} (h : a ≠ b) : cmpZ a b ≠ 0 := by unfold cmpZ; split <;> (try split) <;> omega

theorem cmpEq {a b : Int} (h : a = b) (W : World) : Calls Try.prog 94 #[.int .i64 a, .int .i64 b] W fun e w' => e = .returned (.int .i64 0) ∧ W = w' := by
  have := cmpI_any a b W
  rwa [cmpZ_eq h] at this
theorem cmpNe {a b : Int} (h : a ≠ b) : ∃ r : Int, (r != 0) = true ∧ Hid (cmpZ a b = r) ∧ ∀ W, Hid (Calls Try.prog 94 #[.int .i64 a, .int .i64 b] W fun e w' => e = .returned (.int .i64 r) ∧ W = w') :=
  ⟨cmpZ a b, by simpa using cmpZ_ne h, rfl, fun W => Lib.hid (cmpI_any a b W)⟩

set_option maxHeartbeats 2000000 in
theorem cmp3_any (a b c a' b' c' : Int) (g k : Nat) (w : World) (h0 : w.cell? ⟨g, 0, none⟩ = some (.int .i64 a)) (h1 : w.cell? ⟨g, 1, none⟩ = some (.int .i64 b)) (h2 : w.cell? ⟨g, 2, none⟩ = some (.int .i64 c))
    (k0 : w.cell? ⟨k, 0, none⟩ = some (.int .i64 a')) (k1 : w.cell? ⟨k, 1, none⟩ = some (.int .i64 b')) (k2 : w.cell? ⟨k, 2, none⟩ = some (.int .i64 c')) :
    Calls Try.prog 108 #[.slice (some ⟨g, 0, none⟩) 3 3, .slice (some ⟨k, 0, none⟩) 3 3] w fun e w' => e = .returned (.int .i64 (lex3 a b c a' b' c')) ∧ w = w' := by
  by_cases e1 : a = a'
  · have N1 := fun W => Lib.hid (cmpEq e1 W)
    by_cases e2 : b = b'
    · have N2 := fun W => Lib.hid (cmpEq e2 W)
      by_cases e3 : c = c'
      · have N3 := fun W => Lib.hid (cmpEq e3 W)
        have E := Lib.hid (show lex3 a b c a' b' c' = 0 by unfold lex3; rw [if_neg (by omega), if_neg (by omega), cmpZ_eq e3])
        clear e1 e2 e3
        go_enter Try.func108, Try.ntmps108
        go_wp2_with fail
        refine wp_loop_rounds 4 ?_
        rw [rounds_succ]
        go_wp2_with fail
        refine (N1 _).out.mono ?_
        rintro e w' ⟨rfl, rfl⟩
        go_wp2_with fail
        rw [rounds_succ]
        go_wp2_with fail
        refine (N2 _).out.mono ?_
        rintro e w' ⟨rfl, rfl⟩
        go_wp2_with fail
        rw [rounds_succ]
        go_wp2_with fail
        refine (N3 _).out.mono ?_
        rintro e w' ⟨rfl, rfl⟩
        go_wp2_with fail
        rw [rounds_succ]
        go_wp2_with fail
        go_ret
        exact ⟨ret_i64 E.out.symm, rfl⟩
      · obtain ⟨r, hr, hc, N3⟩ := cmpNe e3
        have E := Lib.hid (show lex3 a b c a' b' c' = r by unfold lex3; rw [if_neg (by omega), if_neg (by omega)]; exact hc.out)
        clear e1 e2 e3 hc
        go_enter Try.func108, Try.ntmps108
        go_wp2_with fail
        refine wp_loop_rounds 4 ?_
        rw [rounds_succ]
        go_wp2_with fail
        refine (N1 _).out.mono ?_
        rintro e w' ⟨rfl, rfl⟩
        go_wp2_with fail
        rw [rounds_succ]
        go_wp2_with fail
        refine (N2 _).out.mono ?_
        rintro e w' ⟨rfl, rfl⟩
        go_wp2_with fail
        rw [rounds_succ]
        go_wp2_with fail
        refine (N3 _).out.mono ?_
        rintro e w' ⟨rfl, rfl⟩
        go_wp2_with fail
        go_ret
        exact ⟨ret_i64 E.out.symm, rfl⟩
    · obtain ⟨r, hr, hc, N2⟩ := cmpNe e2
      have E := Lib.hid (show lex3 a b c a' b' c' = r by unfold lex3; rw [if_neg (by omega), if_pos e2]; exact hc.out)
      clear e1 e2 hc
      go_enter Try.func108, Try.ntmps108
      go_wp2_with fail
      refine wp_loop_rounds 4 ?_
      rw [rounds_succ]
      go_wp2_with fail
      refine (N1 _).out.mono ?_
      rintro e w' ⟨rfl, rfl⟩
      go_wp2_with fail
      rw [rounds_succ]
      go_wp2_with fail
      refine (N2 _).out.mono ?_
      rintro e w' ⟨rfl, rfl⟩
      go_wp2_with fail
      go_ret
      exact ⟨ret_i64 E.out.symm, rfl⟩
  · obtain ⟨r, hr, hc, N1⟩ := cmpNe e1
    have E := Lib.hid (show lex3 a b c a' b' c' = r by unfold lex3; rw [if_pos e1]; exact hc.out)
    clear e1 hc
    go_enter Try.func108, Try.ntmps108
    go_wp2_with fail
    refine wp_loop_rounds 4 ?_
    rw [rounds_succ]
    go_wp2_with fail
    refine (N1 _).out.mono ?_
    rintro e w' ⟨rfl, rfl⟩
    go_wp2_with fail
    go_ret
    exact ⟨ret_i64 E.out.symm, rfl⟩

/-- What compareSides returns. -/
def cmpS (x y : Side) : Int := if x.p ≠ y.p then cmpZ x.p y.p else if x.s ≠ y.s then cmpZ x.s y.s else lex3 x.a x.b x.c y.a y.b y.c

set_option maxHeartbeats 2000000 in
theorem cmpSides_any (x y : Side) (w : World) :
    Calls Try.prog 122 #[.agg #[.int .i64 x.a, .int .i64 x.b, .int .i64 x.c, .int .i64 x.p, .int .i64 x.s], .agg #[.int .i64 y.a, .int .i64 y.b, .int .i64 y.c, .int .i64 y.p, .int .i64 y.s]] w fun e w' =>
      e = .returned (.int .i64 (cmpS x y)) ∧ ∃ q os', w' = grow (w.drewN q) os' := by
  obtain ⟨a, b, c, p, s⟩ := x
  obtain ⟨a', b', c', p', s'⟩ := y
  simp only at *
  by_cases e1 : p = p'
  · have t1 : (p != p') = false := by simpa using e1
    by_cases e2 : s = s'
    · have t2 : (s != s') = false := by simpa using e2
      have E := Lib.hid (show cmpS ⟨a, b, c, p, s⟩ ⟨a', b', c', p', s'⟩ = lex3 a b c a' b' c' by unfold cmpS; rw [if_neg (by simpa using e1), if_neg (by simpa using e2)])
      have hc := fun (W : World) g k h0 h1 h2 k0 k1 k2 => Lib.hid (cmp3_any a b c a' b' c' g k W h0 h1 h2 k0 k1 k2)
      generalize lex3 a b c a' b' c' = r at *
      generalize cmpS ⟨a, b, c, p, s⟩ ⟨a', b', c', p', s'⟩ = r' at *
      clear e1 e2
      go_enter Try.func122, Try.ntmps122
      go_wp2_with fail
      go_quiet ((go_at_call 108; refine qt_same (hc _ _ _ ?_ ?_ ?_ ?_ ?_ ?_).out <;> simp))
      go_wp2
      go_ret
      exact ⟨ret_i64 E.out.symm, _, _, by rw [alloc_eq_grow, alloc_eq_grow, grow_grow]; rfl⟩
    · have t2 : (s != s') = true := by simpa using e2
      obtain ⟨r, hr, hc, N1⟩ := cmpNe e2
      have E := Lib.hid (show cmpS ⟨a, b, c, p, s⟩ ⟨a', b', c', p', s'⟩ = r by unfold cmpS; rw [if_neg (by simpa using e1), if_pos (by simpa using e2)]; exact hc.out)
      clear e1 e2 hc
      generalize cmpS ⟨a, b, c, p, s⟩ ⟨a', b', c', p', s'⟩ = r' at *
      go_enter Try.func122, Try.ntmps122
      go_wp2_with fail
      refine (N1 _).out.mono ?_
      rintro e w' ⟨rfl, rfl⟩
      go_wp2_with fail
      go_ret
      exact ⟨ret_i64 E.out.symm, 0, _, by rw [alloc_eq_grow, alloc_eq_grow, grow_grow]; rfl⟩
  · have t1 : (p != p') = true := by simpa using e1
    obtain ⟨r, hr, hc, N1⟩ := cmpNe e1
    have E := Lib.hid (show cmpS ⟨a, b, c, p, s⟩ ⟨a', b', c', p', s'⟩ = r by unfold cmpS; rw [if_pos (by simpa using e1)]; exact hc.out)
    clear e1 hc
    generalize cmpS ⟨a, b, c, p, s⟩ ⟨a', b', c', p', s'⟩ = r' at *
    go_enter Try.func122, Try.ntmps122
    go_wp2_with fail
    refine (N1 _).out.mono ?_
    rintro e w' ⟨rfl, rfl⟩
    go_wp2_with fail
    go_ret
    exact ⟨ret_i64 E.out.symm, 0, _, by rw [alloc_eq_grow, alloc_eq_grow, grow_grow]; rfl⟩

/-! ### The order of the sides -/
theorem cmpZ_cases (a b : Int) : (cmpZ a b = -1 ∧ a < b) ∨ (cmpZ a b = 0 ∧ a = b) ∨ (cmpZ a b = 1 ∧ b < a) := by
  unfold cmpZ; split
  · exact .inl ⟨rfl, by assumption⟩
  · split
    · exact .inr (.inr ⟨rfl, by assumption⟩)
    · exact .inr (.inl ⟨rfl, by omega⟩)
/-- x comes ahead of y. -/
def Side.lt (x y : Side) : Prop := x.p < y.p ∨ (x.p = y.p ∧ (x.s < y.s ∨ (x.s = y.s ∧ (x.a < y.a ∨ (x.a = y.a ∧ (x.b < y.b ∨ (x.b = y.b ∧ x.c < y.c)))))))
theorem cmpS_lt (x y : Side) : cmpS x y < 0 ↔ x.lt y := by
  unfold cmpS lex3 Side.lt
  have h1 := cmpZ_cases x.p y.p
  have h2 := cmpZ_cases x.s y.s
  have h3 := cmpZ_cases x.a y.a
  have h4 := cmpZ_cases x.b y.b
  have h5 := cmpZ_cases x.c y.c
  split
  · omega
  · split
    · omega
    · split
      · omega
      · split <;> omega
theorem swoS : SWO (ltOf cmpS) where
  irrefl x := by unfold ltOf; rw [decide_eq_false_iff_not, cmpS_lt]; unfold Side.lt; omega
  trans x y z h1 h2 := by unfold ltOf at *; rw [decide_eq_true_iff, cmpS_lt] at *; unfold Side.lt at *; omega
  ntrans x y z h1 h2 := by unfold ltOf at *; rw [decide_eq_false_iff_not, cmpS_lt] at *; unfold Side.lt at *; omega
theorem totS (x y : Side) (h1 : ltOf cmpS x y = false) (h2 : ltOf cmpS y x = false) : x = y := by
  unfold ltOf at *
  rw [decide_eq_false_iff_not, cmpS_lt] at h1 h2
  unfold Side.lt at *
  obtain ⟨a, b, c, p, s⟩ := x
  obtain ⟨a', b', c', p', s'⟩ := y
  simp only at *
  simp only [Side.mk.injEq]
  omega

theorem cmpLays (blk off size : Nat) (w : World) : CmpLays Try.prog 122 #[] Side.enc 5 cmpS blk off size w :=
  fun _ _ _ _ x y => cmpSides_any x y _
end Go.Proofs.Ytoenimkgagndnaa

/- Rows of sides in memory: what stands behind calls, stores and clear; the plain side of CompactFunc. -/
namespace Go.Proofs.Ytoenimkgagndnaa
set_option linter.unusedVariables false
set_option linter.unusedSimpArgs false
open Go.RowKit Go.Shelf Go.Lib Go.Sort

theorem enc_len (x : Side) : x.enc.length = 5 := rfl
theorem enc_one (x : Side) : ∀ v ∈ x.enc, v.oneCell' = true := fun v hv => by
  simp [Side.enc] at hv
  rcases hv with rfl | rfl | rfl | rfl | rfl <;> rfl

section
variable {W W1 : World} {g : Nat} {d : Array Side}
theorem holdsK_mk (h : ∀ i, i < d.size → ∀ c, c < 5 → W.cell? ⟨g, i * 5 + c, none⟩ = some (d[i]!.enc)[c]! ∧ W.frozen? ⟨g, i * 5 + c, none⟩ = false) : HoldsK Side.enc 5 W g 0 d := by
  intro j hj
  rw [size_flatK] at hj
  rw [get_flatK _ _ _ _ hj]
  have h1 : j / 5 < d.size := by omega
  have h2 := h (j / 5) h1 (j % 5) (by omega)
  rw [show j / 5 * 5 + j % 5 = j by omega] at h2
  rw [Nat.zero_add]
  exact h2
theorem holdsK_at (h : HoldsK Side.enc 5 W g 0 d) {i : Nat} (hi : i < d.size) {c : Nat} (hc : c < 5) : W.cell? ⟨g, i * 5 + c, none⟩ = some (d[i]!.enc)[c]! ∧ W.frozen? ⟨g, i * 5 + c, none⟩ = false := by
  have := h.cell hi hc
  rwa [Nat.zero_add] at this
theorem cells5 (h : HoldsK Side.enc 5 W g 0 d) {i : Nat} (hi : i < d.size) :
    (W.cell? ⟨g, i * 5, none⟩ = some (.int .i64 d[i]!.a) ∧ W.cell? ⟨g, i * 5 + 1, none⟩ = some (.int .i64 d[i]!.b) ∧ W.cell? ⟨g, i * 5 + 2, none⟩ = some (.int .i64 d[i]!.c) ∧ W.cell? ⟨g, i * 5 + 3, none⟩ = some (.int .i64 d[i]!.p) ∧ W.cell? ⟨g, i * 5 + 4, none⟩ = some (.int .i64 d[i]!.s)) ∧
    (W.frozen? ⟨g, i * 5, none⟩ = false ∧ W.frozen? ⟨g, i * 5 + 1, none⟩ = false ∧ W.frozen? ⟨g, i * 5 + 2, none⟩ = false ∧ W.frozen? ⟨g, i * 5 + 3, none⟩ = false ∧ W.frozen? ⟨g, i * 5 + 4, none⟩ = false) := by
  have h0 := holdsK_at h hi (show 0 < 5 by omega)
  have h1 := holdsK_at h hi (show 1 < 5 by omega)
  have h2 := holdsK_at h hi (show 2 < 5 by omega)
  have h3 := holdsK_at h hi (show 3 < 5 by omega)
  have h4 := holdsK_at h hi (show 4 < 5 by omega)
  exact ⟨⟨h0.1, h1.1, h2.1, h3.1, h4.1⟩, h0.2, h1.2, h2.2, h3.2, h4.2⟩
theorem holdsK_below (hb : Below W.heap.size W W1) (hg : g < W.heap.size) (h : HoldsK Side.enc 5 W g 0 d) : HoldsK Side.enc 5 W1 g 0 d := fun j hj =>
  ⟨(hb.cell (p := ⟨g, 0 + j, none⟩) hg).trans (h j hj).1, (hb.frozen (p := ⟨g, 0 + j, none⟩) hg).trans (h j hj).2⟩
theorem holdsK_drew (h : HoldsK Side.enc 5 W g 0 d) : HoldsK Side.enc 5 W.drew g 0 d := h

/-- The store of a whole element. -/
def put5 (W : World) (g i : Nat) (x : Side) : World := ((((W.setCell ⟨g, i * 5, none⟩ (.int .i64 x.a)).setCell ⟨g, i * 5 + 1, none⟩ (.int .i64 x.b)).setCell ⟨g, i * 5 + 2, none⟩ (.int .i64 x.c)).setCell ⟨g, i * 5 + 3, none⟩ (.int .i64 x.p)).setCell ⟨g, i * 5 + 4, none⟩ (.int .i64 x.s)
theorem put5_eq (W : World) (g i : Nat) (x : Side) : put5 W g i x = W.setCells g (i * 5) x.enc := by
  simp only [put5, Side.enc, World.setCells]
theorem get_set (d : Array Side) (i j : Nat) (x : Side) (hi : i < d.size) : (d.setIfInBounds i x)[j]! = if j = i then x else d[j]! := by
  by_cases h : j = i
  · subst h; rw [getElem!_set_same d j x hi, if_pos rfl]
  · rw [getElem!_set_other d i j x h, if_neg h]
theorem holdsK_put5 (h : HoldsK Side.enc 5 W g 0 d) {i : Nat} (hi : i < d.size) (x : Side) : HoldsK Side.enc 5 (put5 W g i x) g 0 (d.setIfInBounds i x) := by
  rw [put5_eq]
  refine holdsK_mk fun j hj c hc => ?_
  have hj' : j < d.size := by simpa using hj
  refine ⟨?_, by rw [World.frozen?_setCells]; exact (holdsK_at h hj' hc).2⟩
  rw [get_set d i j x hi]
  by_cases e : j = i
  · subst e
    rw [if_pos rfl]
    have hl : c < x.enc.length := by rw [enc_len]; exact hc
    have := World.cell?_setCells_in g x.enc (j * 5) W (fun c hc => by rw [enc_len] at hc; rw [(holdsK_at h hi hc).1]; rfl) c hl
    exact this.trans (congrArg some (getElem!_pos x.enc c hl).symm)
  · rw [if_neg e, World.cell?_setCells_out g x.enc (i * 5) W _ (fun _ _ => by simp only [enc_len]; omega)]
    exact (holdsK_at h hj' hc).1
theorem put5_below {a : World} {B : Nat} (hB : B ≤ g) (h : Below B a W) (i : Nat) (x : Side) : Below B a (put5 W g i x) := by
  rw [put5_eq]
  exact below_setCells g hB _ _ h
theorem put5_size (i : Nat) (x : Side) : (put5 W g i x).heap.size = W.heap.size := by simp [put5]

/-- What stands ahead of a run of stores. -/
theorem holdsK_pre (h : HoldsK Side.enc 5 W g 0 d) {m : Nat} (hm : m ≤ d.size) (vs : List Value) : HoldsK Side.enc 5 (W.setCells g (m * 5) vs) g 0 (d.extract 0 m) := by
  refine holdsK_mk fun j hj c hc => ?_
  have hj' : j < m := by simp at hj; omega
  refine ⟨?_, by rw [World.frozen?_setCells]; exact (holdsK_at h (by omega) hc).2⟩
  rw [World.cell?_setCells_out g vs (m * 5) W _ (fun _ _ => by simp only; omega)]
  have : (d.extract 0 m)[j]! = d[j]! := by
    rw [getElem!_pos _ j hj, getElem!_pos d j (by omega)]
    simp
  rw [this]
  exact (holdsK_at h (by omega) hc).1
theorem setCells_size (o : Nat) : ∀ (vs : List Value) (o : Nat) (W : World), (W.setCells g o vs).heap.size = W.heap.size
  | [], _, _ => rfl
  | v :: r, o, W => by rw [World.setCells, setCells_size o r]; simp
end

/-- clear of a part of a row of sides. -/
theorem run_clear5 {P : Program} (W : World) (t e ty : TypeId) (ht : P.underlying t = some (.slice e)) (hv : ∀ w, (zeroValue e).run P w = .ok (.agg #[.int .i64 0, .int .i64 0, .int .i64 0, .int .i64 0, .int .i64 0]) w) (g o n c : Nat) (hn : 0 < n)
    (hc : ∀ j, j < n * 5 → (W.cell? ⟨g, o + j, none⟩).isSome = true) (hf : ∀ j, j < n * 5 → W.frozen? ⟨g, o + j, none⟩ = false) :
    ∃ vs, (Builtin.clear_ #[t] ty #[.slice (some ⟨g, o, none⟩) n c]).run P W = .ok (.tuple #[]) (W.setCells g o vs) := by
  refine ⟨(Builtin.zeroCells (Value.agg #[.int .i64 0, .int .i64 0, .int .i64 0, .int .i64 0, .int .i64 0]).cells n).toList, ?_⟩
  have hz : (Value.agg #[.int .i64 0, .int .i64 0, .int .i64 0, .int .i64 0, .int .i64 0]).cells = #[.int .i64 0, .int .i64 0, .int .i64 0, .int .i64 0, .int .i64 0] := rfl
  have hl : (Builtin.zeroCells (Value.agg #[.int .i64 0, .int .i64 0, .int .i64 0, .int .i64 0, .int .i64 0]).cells n).toList.length = n * 5 := by
    rw [hz]; simp [Builtin.zeroCells]
  have hst := run_storeCells_cells (P := P) g o (Builtin.zeroCells (Value.agg #[.int .i64 0, .int .i64 0, .int .i64 0, .int .i64 0, .int .i64 0]).cells n).toList 0 W (by rw [hl]; simpa using hc) (by rw [hl]; simpa using hf) (by
    intro v hv'
    rw [hz] at hv'
    simp [Builtin.zeroCells] at hv'
    obtain ⟨i, _, rfl⟩ := hv'
    have : i % 5 = 0 ∨ i % 5 = 1 ∨ i % 5 = 2 ∨ i % 5 = 3 ∨ i % 5 = 4 := by omega
    rcases this with e | e | e | e | e <;> simp [e] <;> rfl)
  simp only [Nat.add_zero] at hst
  obtain ⟨m, rfl⟩ : ∃ m, n = m + 1 := ⟨n - 1, by omega⟩
  simp [Builtin.clear_, run_underlying ht, hv, hst]

/-! ### The plain side of CompactFunc -/
/-- Element j is kept. -/
def keepAt (d : Array Side) (j : Nat) : Bool := j == 0 || !(d[j]!.p == d[j - 1]!.p)
/-- What is kept of the first n. -/
def cmpL (d : Array Side) (n : Nat) : List Side := ((List.range n).filter (keepAt d)).map (d[·]!)
theorem cmpL_snoc (d : Array Side) (n : Nat) : cmpL d (n + 1) = cmpL d n ++ if keepAt d n = true then [d[n]!] else [] := by
  unfold cmpL
  rw [List.range_succ, List.filter_append, List.map_append]
  by_cases h : keepAt d n = true <;> simp [List.filter_cons, h]
theorem cmpL_all (d : Array Side) (n : Nat) (h : ∀ j, j < n → keepAt d j = true) : cmpL d n = (List.range n).map (d[·]!) := by
  unfold cmpL
  rw [List.filter_eq_self.2 (fun j hj => h j (by simpa using hj))]

/-- The second loop of CompactFunc: n elements are read, kk are kept. -/
structure CInv (d : Array Side) (n kk : Nat) (dk : Array Side) : Prop where
  size : dk.size = d.size
  len : kk = (cmpL d n).length
  low : ∀ j, j < kk → dk[j]! = (cmpL d n)[j]!
  high : ∀ j, n - 1 ≤ j → dk[j]! = d[j]!
  lt : kk < n
theorem CInv.start {d : Array Side} {k : Nat} (h : ∀ j, j < k → keepAt d j = true) (hk : keepAt d k = false) : CInv d (k + 1) k d := by
  have e : cmpL d (k + 1) = (List.range k).map (d[·]!) := by rw [cmpL_snoc, hk, cmpL_all d k h]; simp
  exact ⟨rfl, by rw [e]; simp, fun j hj => by rw [e, getElem!_pos ((List.range k).map (d[·]!)) j (by simpa using hj)]; simp, fun _ _ => rfl, by omega⟩
theorem CInv.skip {d : Array Side} {n kk : Nat} {dk : Array Side} (h : CInv d n kk dk) (hn : keepAt d n = false) : CInv d (n + 1) kk dk := by
  have e : cmpL d (n + 1) = cmpL d n := by rw [cmpL_snoc, hn]; simp
  exact ⟨h.size, by rw [e]; exact h.len, fun j hj => by rw [e]; exact h.low j hj, fun j hj => h.high j (by omega), by have := h.lt; omega⟩
theorem CInv.keep {d : Array Side} {n kk : Nat} {dk : Array Side} (h : CInv d n kk dk) (hlt : n < d.size) (hn : keepAt d n = true) : CInv d (n + 1) (kk + 1) (dk.setIfInBounds kk d[n]!) := by
  have e : cmpL d (n + 1) = cmpL d n ++ [d[n]!] := by rw [cmpL_snoc, hn]; simp
  have hk := h.lt
  have hs := h.size
  refine ⟨by simp [hs], by rw [e, List.length_append, ← h.len]; rfl, fun j hj => ?_, fun j hj => ?_, by omega⟩
  · rw [get_set dk kk j _ (by omega), e]
    by_cases ej : j = kk
    · subst ej
      rw [if_pos rfl, getElem!_pos _ j (by rw [List.length_append, ← h.len]; simp), List.getElem_append_right (by rw [← h.len]; exact Nat.le_refl _)]
      simp
    · rw [if_neg ej, h.low j (by omega), getElem!_pos _ j (by rw [← h.len]; omega), getElem!_pos _ j (by rw [List.length_append, ← h.len]; simp; omega), List.getElem_append_left]
  · rw [get_set dk kk j _ (by omega), if_neg (by omega)]
    exact h.high j (by omega)
theorem CInv.done {d : Array Side} {kk : Nat} {dk : Array Side} (h : CInv d d.size kk dk) : dk.extract 0 kk = (cmpL d d.size).toArray := by
  have hk := h.lt
  have hs := h.size
  apply Array.ext
  · simp [h.len.symm]; omega
  · intro i h1 h2
    have hi : i < kk := by simp at h1; omega
    have := h.low i hi
    rw [getElem!_pos dk i (by omega), getElem!_pos _ i (by rw [← h.len]; exact hi)] at this
    simpa using this
theorem cmpL_none {d : Array Side} (h : ∀ j, j < d.size → keepAt d j = true) : (cmpL d d.size).toArray = d := by
  rw [cmpL_all d _ h]
  apply Array.ext
  · simp
  · intro i h1 h2
    simp
    exact getElem!_pos d i h2
end Go.Proofs.Ytoenimkgagndnaa

/- The plain side of gear.sides: all sides of so many stages. -/
namespace Go.Proofs.Ytoenimkgagndnaa
set_option linter.unusedVariables false
set_option linter.unusedSimpArgs false
open Go.RowKit Go.Shelf Go.Lib Go.Sort

def Side.tooth (x : Side) (i : Nat) : Int := if i = 0 then x.a else if i = 1 then x.b else x.c
def fromOf (low : Int) (r : Bool) (k : Nat) (x : Side) : Int := if 0 < k ∧ r = true then x.tooth (k - 1) else low
def toOf (high : Int) (r : Bool) (k : Nat) (x : Side) : Int := if 0 < k ∧ r = false then x.tooth (k - 1) else high
/-- The longer sides of a side: the first n. -/
def extTo (low : Int) (r : Bool) (k : Nat) (x : Side) (n : Nat) : List Side := (List.range n).map fun (i : Nat) => x.with k (fromOf low r k x + (i : Int))
def ext (low high : Int) (r : Bool) (k : Nat) (x : Side) : List Side := extTo low r k x (toOf high r k x - fromOf low r k x + 1).toNat
def gen (low high : Int) (r : Bool) : Nat → List Side
  | 0 => [⟨0, 0, 0, 1, 0⟩]
  | k + 1 => (gen low high r k).flatMap (ext low high r k)

/-- What holds of a side of k stages. -/
def Good (low high : Int) (k : Nat) (x : Side) : Prop := (∀ i, i < k → low ≤ x.tooth i ∧ x.tooth i ≤ high) ∧ 1 ≤ x.p ∧ x.p ≤ 200 ^ k ∧ 0 ≤ x.s ∧ x.s ≤ 200 * k

theorem tooth_with (x : Side) (k : Nat) (t : Int) (hk : k < 3) (i : Nat) (hi : i ≤ k) : (x.with k t).tooth i = if i = k then t else x.tooth i := by
  unfold Side.with Side.tooth
  rcases (show k = 0 ∨ k = 1 ∨ k = 2 by omega) with rfl | rfl | rfl
  · obtain rfl : i = 0 := by omega
    simp
  · rcases (show i = 0 ∨ i = 1 by omega) with rfl | rfl <;> simp
  · rcases (show i = 0 ∨ i = 1 ∨ i = 2 by omega) with rfl | rfl | rfl <;> simp

theorem good_with {low high : Int} {k : Nat} {x : Side} (h : Good low high k x) (hk : k < 3) {t : Int} (h1 : low ≤ t) (h2 : t ≤ high) (h3 : 1 ≤ low) (h4 : high ≤ 200) : Good low high (k + 1) (x.with k t) := by
  obtain ⟨ht, hp1, hp2, hs1, hs2⟩ := h
  refine ⟨fun i hi => ?_, ?_, ?_, ?_, ?_⟩
  · rw [tooth_with x k t hk i (by omega)]
    split
    · exact ⟨h1, h2⟩
    · exact ht i (by omega)
  · show 1 ≤ x.p * t
    have := Int.mul_le_mul hp1 (show 1 ≤ t by omega) (by omega) (by omega)
    omega
  · show x.p * t ≤ 200 ^ (k + 1)
    have := Int.mul_le_mul hp2 (show t ≤ 200 by omega) (by omega) (by omega)
    rw [Int.pow_succ]
    exact this
  · show 0 ≤ x.s + t; omega
  · show x.s + t ≤ 200 * ((k + 1 : Nat) : Int); omega

theorem from_to {low high : Int} {r : Bool} {k : Nat} {x : Side} (h : Good low high k x) (hlh : low ≤ high) : low ≤ fromOf low r k x ∧ fromOf low r k x ≤ high ∧ low ≤ toOf high r k x ∧ toOf high r k x ≤ high ∧ fromOf low r k x ≤ toOf high r k x := by
  unfold fromOf toOf
  by_cases hk : 0 < k
  · have := h.1 (k - 1) (by omega)
    cases r <;> simp [hk] <;> omega
  · simp [hk]; omega

theorem gen_good {low high : Int} {r : Bool} (hlh : low ≤ high) (h3 : 1 ≤ low) (h4 : high ≤ 200) : ∀ k, k ≤ 3 → ∀ x ∈ gen low high r k, Good low high k x
  | 0, _, x, hx => by
    simp [gen] at hx
    subst hx
    exact ⟨fun i hi => absurd hi (by omega), by decide, by decide, by decide, by decide⟩
  | k + 1, hk, x, hx => by
    simp only [gen, List.mem_flatMap] at hx
    obtain ⟨y, hy, hx⟩ := hx
    have hg := gen_good hlh h3 h4 k (by omega) y hy
    have hft := from_to (r := r) hg hlh
    simp only [ext, extTo, List.mem_map, List.mem_range] at hx
    obtain ⟨i, hi, rfl⟩ := hx
    exact good_with hg (by omega) (by omega) (by omega) h3 h4

theorem ext_len {low high : Int} {r : Bool} {k : Nat} {x : Side} (h : Good low high k x) (hlh : low ≤ high) (hw : high - low < 64) : (ext low high r k x).length ≤ 64 ∧ 1 ≤ (ext low high r k x).length := by
  have hft := from_to (r := r) h hlh
  simp only [ext, extTo, List.length_map, List.length_range]
  omega

theorem flat_len {α β : Type} (f : α → List β) (n : Nat) : ∀ l : List α, (∀ x ∈ l, (f x).length ≤ n) → (l.flatMap f).length ≤ l.length * n
  | [], _ => by simp
  | x :: l, h => by
    have h1 := h x List.mem_cons_self
    have h2 := flat_len f n l (fun y hy => h y (List.mem_cons_of_mem _ hy))
    simp only [List.flatMap_cons, List.length_append, List.length_cons, Nat.add_mul]
    omega
theorem flat_pos {α β : Type} (f : α → List β) : ∀ l : List α, 1 ≤ l.length → (∀ x ∈ l, 1 ≤ (f x).length) → 1 ≤ (l.flatMap f).length
  | [], h, _ => by simp at h
  | x :: l, _, h => by
    have h1 := h x List.mem_cons_self
    simp only [List.flatMap_cons, List.length_append]
    omega

theorem gen_len {low high : Int} {r : Bool} (hlh : low ≤ high) (h3 : 1 ≤ low) (h4 : high ≤ 200) (hw : high - low < 64) : ∀ k, k ≤ 3 → (gen low high r k).length ≤ 64 ^ k ∧ 1 ≤ (gen low high r k).length
  | 0, _ => by simp [gen]
  | k + 1, hk => by
    have ih := gen_len (r := r) hlh h3 h4 hw k (by omega)
    have hg := gen_good (r := r) hlh h3 h4 k (by omega)
    constructor
    · have := flat_len (ext low high r k) 64 (gen low high r k) (fun x hx => (ext_len (hg x hx) hlh hw).1)
      simp only [gen, Nat.pow_succ]
      have := Nat.mul_le_mul_right 64 ih.1
      omega
    · exact flat_pos _ _ ih.2 (fun x hx => (ext_len (hg x hx) hlh hw).2)

/-- What the first j sides of k stages give. -/
def accTo (low high : Int) (r : Bool) (k j : Nat) : List Side := ((gen low high r k).take j).flatMap (ext low high r k)
theorem accTo_zero (low high : Int) (r : Bool) (k : Nat) : accTo low high r k 0 = [] := by simp [accTo]
theorem accTo_succ (low high : Int) (r : Bool) (k j : Nat) (hj : j < (gen low high r k).length) : accTo low high r k (j + 1) = accTo low high r k j ++ ext low high r k ((gen low high r k)[j]) := by
  unfold accTo
  rw [List.take_succ_eq_append_getElem hj, List.flatMap_append]
  simp
theorem accTo_end (low high : Int) (r : Bool) (k : Nat) : accTo low high r k (gen low high r k).length = gen low high r (k + 1) := by
  unfold accTo
  rw [List.take_length]
  rfl
theorem accTo_len {low high : Int} {r : Bool} (hlh : low ≤ high) (h3 : 1 ≤ low) (h4 : high ≤ 200) (hw : high - low < 64) (k j : Nat) (hk : k ≤ 3) : (accTo low high r k j).length ≤ j * 64 := by
  have hg := gen_good (r := r) hlh h3 h4 k (by omega)
  have := flat_len (ext low high r k) 64 ((gen low high r k).take j) (fun x hx => (ext_len (hg x (List.mem_of_mem_take hx)) hlh hw).1)
  have hl : ((gen low high r k).take j).length ≤ j := List.length_take_le _ _
  have := Nat.mul_le_mul_right 64 hl
  unfold accTo
  omega
theorem extTo_succ (low : Int) (r : Bool) (k : Nat) (x : Side) (n : Nat) : extTo low r k x (n + 1) = extTo low r k x n ++ [x.with k (fromOf low r k x + n)] := by
  simp [extTo, List.range_succ]

/-! ### A row of sides of the call's own -/
def flat (l : List Side) : List Value := l.flatMap Side.enc
theorem flat_snoc (l : List Side) (x : Side) : flat (l ++ [x]) = flat l ++ x.enc := by simp [flat]
theorem flat_length (l : List Side) : (flat l).length = l.length * 5 := by
  induction l with
  | nil => rfl
  | cons x l ih => simp only [flat, List.flatMap_cons, List.length_append, List.length_cons] at *; rw [ih, enc_len]; omega
theorem flat_get (l : List Side) (i c : Nat) (hi : i < l.length) (hc : c < 5) : (flat l)[i * 5 + c]? = some (l[i].enc)[c]! := by
  induction l generalizing i with
  | nil => simp at hi
  | cons x l ih =>
    cases i with
    | zero =>
      simp only [flat, List.flatMap_cons, Nat.zero_mul, Nat.zero_add]
      rw [List.getElem?_append_left (by rw [enc_len]; exact hc)]
      simp only [List.getElem_cons_zero]
      rw [List.getElem?_eq_getElem (by rw [enc_len]; exact hc)]
      exact congrArg some (getElem!_pos x.enc c (by rw [enc_len]; exact hc)).symm
    | succ i =>
      have := ih i (by simpa using hi)
      simp only [flat, List.flatMap_cons] at *
      rw [List.getElem?_append_right (by rw [enc_len]; omega), enc_len, show (i + 1) * 5 + c - 5 = i * 5 + c by omega, this]
      simp

theorem holds_of_own {W : World} {base e : Nat} {v : Value} {l : List Side} (h : W.ownsRow base e 5 v l.length (flat l)) (hl : 1 ≤ l.length) :
    ∃ g cap, v = .slice (some ⟨g, 0, none⟩) l.length cap ∧ base ≤ g ∧ g < W.heap.size ∧ l.length ≤ cap ∧ cap ≤ maxLen ∧ HoldsK Side.enc 5 W g 0 l.toArray := by
  rcases h.2 with ⟨_, h0⟩ | ⟨g, cap, cur, rfl, hb, hh, hnc, hcm, hcs, htake⟩
  · omega
  · refine ⟨g, cap, rfl, hb, (Array.getElem?_eq_some_iff.1 hh).1, hnc, hcm, holdsK_mk fun i hi c hc => ?_⟩
    have hi' : i < l.length := by simpa using hi
    have e1 := flat_get l i c hi' hc
    rw [← htake, List.getElem?_take, if_pos (by omega)] at e1
    have e2 : (l.toArray)[i]! = l[i] := by rw [getElem!_pos _ i hi]; simp
    rw [e2]
    refine ⟨?_, ?_⟩
    · unfold World.cell?
      simp only [hh]
      simpa using e1
    · unfold World.frozen?
      simp [hh]
end Go.Proofs.Ytoenimkgagndnaa

/- slices.CompactFunc at sides, whatever the length. -/
namespace Go.Proofs.Ytoenimkgagndnaa
set_option linter.unusedVariables false
set_option linter.unusedSimpArgs false
open Go.RowKit Go.Shelf Go.Lib Go.Sort

theorem still_tail {P : Program} {id : Nat} {Q : Exit → Act → World → Prop} {a : Act} {w : World} {l : List Oper} (n : Nat) (hm : P.follows .mixedOrders = true) (hB : Region.lexTailB .any l.toArray n = true)
    (h : wpStill P l.toArray w.drew (fun a' => wpList P l.toArray Q (l.drop n) a' w.drew) (l.take n) a) : (Code.region id l.toArray true).wp P Q a w := wp_region_still_tail n hm hB h

theorem below_grow (w : World) (q : Nat) (os : Array Obj) : Below w.heap.size w (grow (w.drewN q) os) :=
  ⟨rfl, rfl, rfl, by simp [grow], fun k hk => heap_grow_old (w.drewN q) os hk⟩

theorem bl_at {g : Nat} {w wr w1 : World} (h : Below g w wr) (hg : g < wr.heap.size) (hb : Below wr.heap.size wr.drew w1) : Below g w w1 := h.drew.trans (hb.mono (Nat.le_of_lt hg))
theorem eqS (r : Bool) (a b c p s a' b' c' p' s' : Int) (hr : (p == p') = r) (w : World) :
    Calls Try.prog 124 #[.agg #[.int .i64 a, .int .i64 b, .int .i64 c, .int .i64 p, .int .i64 s], .agg #[.int .i64 a', .int .i64 b', .int .i64 c', .int .i64 p', .int .i64 s']] w fun e w' => e = .returned (.bool r) ∧ Below w.heap.size w w' :=
  (eqSides_any a b c p s a' b' c' p' s' w).mono fun _ _ ⟨he, q, os, hw⟩ => ⟨by rw [he, hr], by rw [hw]; exact below_grow w q os⟩

/-- What CompactFunc leaves. -/
def Cmpd (g cap : Nat) (d : Array Side) (w : World) (e : Ending) (w' : World) : Prop :=
  e = .returned (.slice (some ⟨g, 0, none⟩) (cmpL d d.size).length cap) ∧ HoldsK Side.enc 5 w' g 0 (cmpL d d.size).toArray ∧ Below g w w'

theorem cmpd_none {g cap : Nat} {d : Array Side} {w w' : World} (h : ∀ j, j < d.size → keepAt d j = true) (hb : Below g w w') (hH : HoldsK Side.enc 5 w' g 0 d) : Cmpd g cap d w (.returned (.slice (some ⟨g, 0, none⟩) d.size cap)) w' := by
  have e := cmpL_none h
  have el : (cmpL d d.size).length = d.size := by
    have := congrArg Array.size e
    simpa using this
  exact ⟨by rw [el], by rw [e]; exact hH, hb⟩

set_option maxHeartbeats 4000000 in
set_option maxRecDepth 100000 in
theorem compact_any (g cap : Nat) (d : Array Side) (w : World) (hH : HoldsK Side.enc 5 w g 0 d) (hg : g < w.heap.size) (hsz : d.size ≤ 1048576) (hcap : d.size ≤ cap) (hcap2 : cap ≤ maxLen) :
    Calls Try.prog 123 #[.slice (some ⟨g, 0, none⟩) d.size cap, .func (.func 124) #[] #[]] w (Cmpd g cap d w) := by
  unfold maxLen at hcap2
  by_cases h2 : d.size < 2
  · have E := Lib.hid (cmpd_none (cap := cap) (fun j hj => by unfold keepAt; simp; omega) (Below.refl g w) hH)
    clear hH
    go_enter Try.func123, Try.ntmps123
    go_wp2
    go_ret
    exact E.out
  · have d2 : decide ((d.size : Int) < 2) = false := by simp; omega
    go_enter Try.func123, Try.ntmps123
    go_wp2
    go_loopg [5] d.size (fun gh s3 wr => ∃ k : Nat, 1 ≤ k ∧ k ≤ d.size ∧ d.size - k ≤ gh ∧ s3 = .int .i64 k ∧ Below g w wr ∧ g < wr.heap.size ∧ Hid (HoldsK Side.enc 5 wr g 0 d) ∧ Hid (∀ j, j < k → keepAt d j = true))
    case atStart => exact ⟨1, Nat.le_refl _, by omega, by omega, rfl, Below.refl _ _, hg, hH, fun j hj => by unfold keepAt; simp; omega⟩
    case round =>
      clear hH
      obtain ⟨k, hk1, hk, hgh, rfl, hB, hgl, hH, hK⟩ := hrel
      by_cases hlt : k < d.size
      · obtain ⟨⟨c0, c1, c2, c3, c4⟩, f0, f1, f2, f3, f4⟩ := cells5 hH.out hlt
        obtain ⟨⟨p0, p1, p2, p3, p4⟩, _⟩ := cells5 hH.out (show k - 1 < d.size by omega)
        generalize hx : d[k]! = x at c0 c1 c2 c3 c4
        generalize hy : d[k - 1]! = y at p0 p1 p2 p3 p4
        obtain ⟨a, b, c, p, s⟩ := x
        obtain ⟨a', b', c', p', s'⟩ := y
        simp only at c0 c1 c2 c3 c4 p0 p1 p2 p3 p4
        have hkk : keepAt d k = !(p == p') := by
          unfold keepAt
          rw [hx, hy]
          have : (k == 0) = false := by simp; omega
          rw [this, Bool.false_or]
        have KK := Lib.hid hkk
        clear hx hy hkk
        by_cases hdup : (p == p') = true
        · go_wp2_with fail
          have w1 : IntKind.i64.wrap ((k : Int) - 1) = (k : Int) - 1 := IntWalk.i64_in _ (by omega)
          have w2 : (0 : Int) ≤ (k : Int) - 1 := by omega
          have w5 : (1 : Int) ≤ (k : Int) := by omega
          have w3 : (k : Int) - 1 < (d.size : Int) := by omega
          have w4 : ((k : Int) - 1).toNat = k - 1 := by omega
          refine still_tail 10 (by kernel_rfl) (by kernel_rfl) ?_
          simp only [List.take_succ_cons, List.take_zero, List.drop_succ_cons, List.drop_zero]
          iterate 10 still_step
          refine wpStill_nil ?_
          clear w1 w2 w3 w4
          go_wp2_with fail
          refine (eqS true _ _ _ _ _ _ _ _ _ _ hdup _).mono ?_
          rintro e w1 ⟨rfl, hb1⟩
          have H1 : Hid (HoldsK Side.enc 5 w1 g 0 d) := holdsK_below hb1 hgl hH.out
          have B1 : Below g w w1 := bl_at hB hgl hb1
          have hg1 : g < w1.heap.size := by have := hb1.size; simp at this; omega
          have S1 : Hid (CInv d (k + 1) k d) := CInv.start hK.out (by rw [KK.out, hdup]; rfl)
          clear hb1 hB hH hK KK c0 c1 c2 c3 c4 p0 p1 p2 p3 p4 f0 f1 f2 f3 f4 hdup
          go_wp2_with fail
          go_loopg [5, 7] d.size (fun gh s5 s7 wr => ∃ (kk k2 : Nat) (dk : Array Side), s5 = .int .i64 kk ∧ s7 = .int .i64 k2 ∧ 1 ≤ k2 ∧ k + k2 ≤ d.size ∧ d.size - (k + k2) ≤ gh ∧ kk < k + k2 ∧ Below g w wr ∧ g < wr.heap.size ∧ Hid (HoldsK Side.enc 5 wr g 0 dk) ∧ Hid (CInv d (k + k2) kk dk))
          case atStart => exact ⟨k, 1, d, rfl, rfl, Nat.le_refl _, by omega, by omega, by omega, B1, hg1, H1, S1⟩
          case round =>
            clear B1 H1 S1
            obtain ⟨kk, k2, dk, rfl, rfl, hk21, hk2, hgh2, hkk, hB, hgl2, hH, hI⟩ := hrel
            have hds := hI.out.size
            by_cases hlt2 : k + k2 < d.size
            · have X1 := hI.out.high (k + k2) (by omega)
              have X2 := hI.out.high (k + k2 - 1) (by omega)
              obtain ⟨⟨c0, c1, c2, c3, c4⟩, _⟩ := cells5 hH.out (show k + k2 < dk.size by omega)
              obtain ⟨⟨p0, p1, p2, p3, p4⟩, _⟩ := cells5 hH.out (show k + k2 - 1 < dk.size by omega)
              rw [X1] at c0 c1 c2 c3 c4
              rw [X2] at p0 p1 p2 p3 p4
              clear X1 X2
              generalize hx : d[k + k2]! = x at c0 c1 c2 c3 c4
              generalize hy : d[k + k2 - 1]! = y at p0 p1 p2 p3 p4
              obtain ⟨a, b, c, p, s⟩ := x
              obtain ⟨a', b', c', p', s'⟩ := y
              simp only at c0 c1 c2 c3 c4 p0 p1 p2 p3 p4
              have hkk2 : keepAt d (k + k2) = !(p == p') := by
                unfold keepAt
                rw [hx, hy]
                have : (k + k2 == 0) = false := by simp; omega
                rw [this, Bool.false_or]
              have KK := Lib.hid hkk2
              have XX := Lib.hid hx
              clear hx hy hkk2
              rw [show (k + k2) * 5 = k * 5 + k2 * 5 by omega] at c0 c1 c2 c3 c4
              rw [show (k + k2 - 1) * 5 = k * 5 + (k2 - 1) * 5 by omega] at p0 p1 p2 p3 p4
              have dt : decide (k2 < d.size - k) = true := by simp; omega
              have dn : k2 < d.size - k := by omega
              have z1 : IntKind.i64.wrap ((k2 : Int) - 1) = (k2 : Int) - 1 := IntWalk.i64_in _ (by omega)
              have z2 : (0 : Int) ≤ (k2 : Int) - 1 := by omega
              have z5 : (1 : Int) ≤ (k2 : Int) := by omega
              have z3 : (k2 : Int) - 1 < ((d.size - k : Nat) : Int) := by omega
              have z4 : ((k2 : Int) - 1).toNat = k2 - 1 := by omega
              by_cases hdup2 : (p == p') = true
              · go_wp2_with fail
                refine still_tail 10 (by kernel_rfl) (by kernel_rfl) ?_
                simp only [List.take_succ_cons, List.take_zero, List.drop_succ_cons, List.drop_zero]
                iterate 10 still_step
                refine wpStill_nil ?_
                clear z1 z2 z3 z4
                go_wp2_with fail
                refine (eqS true _ _ _ _ _ _ _ _ _ _ hdup2 _).mono ?_
                rintro e w2 ⟨rfl, hb2⟩
                have H2 : Hid (HoldsK Side.enc 5 w2 g 0 dk) := holdsK_below hb2 hgl2 hH.out
                have B2 : Below g w w2 := bl_at hB hgl2 hb2
                have hg2 : g < w2.heap.size := by have := hb2.size; simp at this; omega
                have S2 : Hid (CInv d (k + (k2 + 1)) kk dk) := hI.out.skip (by rw [KK.out, hdup2]; rfl)
                clear hb2 hB hH hI KK XX c0 c1 c2 c3 c4 p0 p1 p2 p3 p4 hdup2
                go_wp2_with fail
                go_roundg (d.size - (k + (k2 + 1)))
                case measure => omega
                case rel => exact ⟨kk, k2 + 1, dk, rfl, by go_num, by omega, by omega, Nat.le_refl _, by omega, B2, hg2, H2, S2⟩
              · have hdf : (p == p') = false := by simpa using hdup2
                go_wp2_with fail
                refine still_tail 10 (by kernel_rfl) (by kernel_rfl) ?_
                simp only [List.take_succ_cons, List.take_zero, List.drop_succ_cons, List.drop_zero]
                iterate 10 still_step
                refine wpStill_nil ?_
                clear z1 z2 z3 z4
                go_wp2_with fail
                refine (eqS false _ _ _ _ _ _ _ _ _ _ hdf _).mono ?_
                rintro e w2 ⟨rfl, hb2⟩
                have H2 : Hid (HoldsK Side.enc 5 w2 g 0 dk) := holdsK_below hb2 hgl2 hH.out
                have B2 : Below g w w2 := bl_at hB hgl2 hb2
                have hg2 : g < w2.heap.size := by have := hb2.size; simp at this; omega
                have S2 : Hid (CInv d (k + (k2 + 1)) (kk + 1) (dk.setIfInBounds kk ⟨a, b, c, p, s⟩)) := by
                  have := hI.out.keep hlt2 (by rw [KK.out, hdf]; rfl)
                  rw [XX.out] at this
                  exact this
                replace c0 := kc_below hb2 c0
                replace c1 := kc_below hb2 c1
                replace c2 := kc_below hb2 c2
                replace c3 := kc_below hb2 c3
                replace c4 := kc_below hb2 c4
                obtain ⟨⟨q0, q1, q2, q3, q4⟩, f0, f1, f2, f3, f4⟩ := cells5 H2.out (show kk < dk.size by omega)
                clear hb2 hB hH hI KK XX p0 p1 p2 p3 p4 hdup2 hdf
                generalize dk[kk]! = old at q0 q1 q2 q3 q4
                have H3 : Hid (HoldsK Side.enc 5 (put5 w2 g kk ⟨a, b, c, p, s⟩) g 0 (dk.setIfInBounds kk ⟨a, b, c, p, s⟩)) := holdsK_put5 H2.out (by omega) _
                have B3 : Hid (Below g w (put5 w2 g kk ⟨a, b, c, p, s⟩)) := put5_below (Nat.le_refl _) B2 kk _
                have g3 : Hid (g < (put5 w2 g kk ⟨a, b, c, p, s⟩).heap.size) := by show g < _; rw [put5_size]; exact hg2
                clear H2 B2
                go_wp2_with fail
                go_roundg (d.size - (k + (k2 + 1)))
                case measure => omega
                case rel => exact ⟨kk + 1, k2 + 1, dk.setIfInBounds kk ⟨a, b, c, p, s⟩, by go_num, by go_num, by omega, by omega, Nat.le_refl _, by omega, B3.out, g3.out, H3, S2⟩
            · have hend : k + k2 = d.size := by omega
              have dt : decide (k2 < d.size - k) = false := by simp; omega
              have dn : ¬ k2 < d.size - k := by omega
              obtain ⟨vs, hcl⟩ : ∃ vs, ∀ ty, (Builtin.clear_ #[125] ty #[.slice (some ⟨g, kk * 5, none⟩) (d.size - kk) (cap - kk)]).run Try.prog wr = .ok (.tuple #[]) (wr.setCells g (kk * 5) vs) := by
                have hcell : ∀ j, j < (d.size - kk) * 5 → (wr.cell? ⟨g, kk * 5 + j, none⟩).isSome = true ∧ wr.frozen? ⟨g, kk * 5 + j, none⟩ = false := fun j hj => by
                  have := holdsK_at hH.out (show kk + j / 5 < dk.size by omega) (show j % 5 < 5 by omega)
                  rw [show (kk + j / 5) * 5 + j % 5 = kk * 5 + j by omega] at this
                  exact ⟨by rw [this.1]; rfl, this.2⟩
                obtain ⟨vs, h⟩ := run_clear5 (P := Try.prog) wr 125 102 0 Try.underlying125 (fun _ => by kernel_rfl) g (kk * 5) (d.size - kk) (cap - kk) (by omega) (fun j hj => (hcell j hj).1) (fun j hj => (hcell j hj).2)
                exact ⟨vs, fun ty => h⟩
              have hI2 := hI.out
              rw [hend] at hI2
              have H3 : Hid (HoldsK Side.enc 5 (wr.setCells g (kk * 5) vs) g 0 (cmpL d d.size).toArray) := by
                have := holdsK_pre hH.out (m := kk) (by omega) vs
                rw [hI2.done] at this
                exact this
              have E : Hid (Cmpd g cap d w (.returned (.slice (some ⟨g, 0, none⟩) kk cap)) (wr.setCells g (kk * 5) vs)) := ⟨by rw [hI2.len], H3.out, below_setCells g (Nat.le_refl _) _ _ hB⟩
              clear hI hI2 hH hB hend H3
              go_wp2
              go_ret
              exact E.out
        · have hdf : (p == p') = false := by simpa using hdup
          go_wp2_with fail
          have w1 : IntKind.i64.wrap ((k : Int) - 1) = (k : Int) - 1 := IntWalk.i64_in _ (by omega)
          have w2 : (0 : Int) ≤ (k : Int) - 1 := by omega
          have w5 : (1 : Int) ≤ (k : Int) := by omega
          have w3 : (k : Int) - 1 < (d.size : Int) := by omega
          have w4 : ((k : Int) - 1).toNat = k - 1 := by omega
          refine still_tail 10 (by kernel_rfl) (by kernel_rfl) ?_
          simp only [List.take_succ_cons, List.take_zero, List.drop_succ_cons, List.drop_zero]
          iterate 10 still_step
          refine wpStill_nil ?_
          clear w1 w2 w3 w4
          go_wp2_with fail
          refine (eqS false _ _ _ _ _ _ _ _ _ _ hdf _).mono ?_
          rintro e w1 ⟨rfl, hb1⟩
          have H1 : Hid (HoldsK Side.enc 5 w1 g 0 d) := holdsK_below hb1 hgl hH.out
          have B1 : Below g w w1 := bl_at hB hgl hb1
          have hg1 : g < w1.heap.size := by have := hb1.size; simp at this; omega
          have S1 : Hid (∀ j, j < k + 1 → keepAt d j = true) := fun j hj => by
            by_cases e : j = k
            · rw [e, KK.out, hdf]; rfl
            · exact hK.out j (by omega)
          clear hb1 hB hH hK KK c0 c1 c2 c3 c4 p0 p1 p2 p3 p4 f0 f1 f2 f3 f4 hdup hdf
          go_wp2_with fail
          go_roundg (d.size - (k + 1))
          case measure => omega
          case rel => exact ⟨k + 1, by omega, by omega, Nat.le_refl _, by go_num, B1, hg1, H1, S1⟩
      · have : k = d.size := by omega
        subst this
        have E := Lib.hid (cmpd_none (cap := cap) hK.out hB hH.out)
        clear hH hK
        go_wp2
        go_ret
        exact E.out
end Go.Proofs.Ytoenimkgagndnaa
