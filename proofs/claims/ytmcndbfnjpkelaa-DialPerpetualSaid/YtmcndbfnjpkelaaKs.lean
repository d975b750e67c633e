/- What a cell holds behind stores elsewhere, quickly. -/
import Derived.Test.YtmcndbfnjpkelaaKit
namespace Go.Proofs.Ytmcndbfnjpkelaa
set_option linter.unusedVariables false
set_option linter.unusedSimpArgs false
open Go.RowKit Go.Lib
theorem kc_setb {w : World} {p a : Addr} {u v : Value} (hp : p.block ≠ a.block) (h : w.cell? a = some v) : (w.setCell p u).cell? a = some v :=
  kc_set (fun e => hp (congrArg Addr.block e)) h
theorem kc_seto {w : World} {p a : Addr} {u v : Value} (hp : p.off ≠ a.off) (h : w.cell? a = some v) : (w.setCell p u).cell? a = some v :=
  kc_set (fun e => hp (congrArg Addr.off e)) h
end Go.Proofs.Ytmcndbfnjpkelaa
