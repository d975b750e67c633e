/-
  DERIVED: THE SHELF's CONTRACTS AT THIS DUMP, IN PLAIN WORDS (tools/lay-plain.mjs out of 'TryShelf.lean', which tools/lay-shelf.mjs wrote): THE SAME DECLARATIONS UNDER THE SAME NAMES: 'import', 'namespace', 'open', 'def', 'theorem' AND NOTHING ELSE: no command of the shelf's: FOR A HAND-IN. Each laying: the table of numbers ('.._ren') and one theorem, a field a fact of the dump's own or the kernel's comparison; each contract: ONE APPLICATION.
-/
import Derived.Shelf.SlSorted.Search
import Derived.Ground.SlsoProg
import Derived.Test.YtmcndbfnjpkelaaProg
namespace Go.Proofs
open Go.Shelf
def Try.searchS_ren : Go.Shelf.Ren := ⟨fun | 16 => 82 | n => n, fun | 3 => 3 | 35 => 37 | 4 => 4 | 38 => 91 | n => n, fun | n => n⟩
theorem Try.searchS : Go.Proofs.SlLaysO.n16 Try.prog Try.searchS_ren := {
  mixed := by kernel_rfl
  f16 := Try.func82.trans (congrArg some (by kernel_rfl))
  t3 := Try.underlying3
  a3 := Try.isAgg3
  z3 := Try.sizeOf3
  v3 := Try.zeroValue3
  t4 := Try.underlying4
  a4 := Try.isAgg4
  z4 := Try.sizeOf4
  v4 := Try.zeroValue4
  t35 := Try.underlying37
  a35 := Try.isAgg37
  z35 := Try.sizeOf37
  v35 := Try.zeroValue37
  t38 := Try.underlying91
  a38 := Try.isAgg91
  z38 := Try.sizeOf91
  v38 := Try.zeroValue91 }
end Go.Proofs
