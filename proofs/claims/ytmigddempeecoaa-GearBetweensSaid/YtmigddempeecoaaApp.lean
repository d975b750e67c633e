/- append to an empty slice of the call's own: a copy of a slice that is only read. -/
import Derived.Test.YtmigddempeecoaaLives
import Derived.ArgAppend
import Derived.Laws.OwnMore
namespace Go.Proofs.Ytmigddempeecoaa
set_option linter.unusedVariables false
set_option linter.unusedSimpArgs false
open Go.RowKit Go.Lib

/-- The same, in blocks from a number on. -/
def RdF (base : Nat) (W : World) (v : Value) (xs : List Int) : Prop :=
  ∃ (a : Option Addr) (cap : Nat), v = .slice a xs.length cap ∧ xs.length ≤ cap ∧ (xs = [] ∨ ∃ g o, base ≤ g ∧ a = some ⟨g, o, none⟩ ∧ ∀ i, i < xs.length → W.cell? ⟨g, o + i, none⟩ = some (.int .i64 (xs.getD i 0)))
theorem RdF.rd {base : Nat} {W : World} {v : Value} {xs : List Int} (h : RdF base W v xs) : Rd W v xs := by
  obtain ⟨a, cap, rfl, hc, h⟩ := h
  exact ⟨a, cap, rfl, hc, h.imp_right fun ⟨g, o, _, h1, h2⟩ => ⟨g, o, h1, h2⟩⟩
theorem RdF.below {base : Nat} {W W1 : World} {v : Value} {xs : List Int} (h : RdF base W v xs) (hb : Below W.heap.size W W1) : RdF base W1 v xs := by
  obtain ⟨a, cap, rfl, hc, h⟩ := h
  exact ⟨a, cap, rfl, hc, h.imp_right fun ⟨g, o, h0, h1, h2⟩ => ⟨g, o, h0, h1, fun i hi => kc_below hb (h2 i hi)⟩⟩
theorem RdF.mono {base b : Nat} {W : World} {v : Value} {xs : List Int} (h : RdF base W v xs) (hb : b ≤ base) : RdF b W v xs := by
  obtain ⟨a, cap, rfl, hc, h⟩ := h
  exact ⟨a, cap, rfl, hc, h.imp_right fun ⟨g, o, h0, h1, h2⟩ => ⟨g, o, Nat.le_trans hb h0, h1, h2⟩⟩
theorem RdF.set {base : Nat} {W : World} {v : Value} {xs : List Int} (h : RdF base W v xs) {b o : Nat} (hb : b < base) (u : Value) : RdF base (W.setCell ⟨b, o, none⟩ u) v xs := by
  obtain ⟨a, cap, rfl, hc, h⟩ := h
  exact ⟨a, cap, rfl, hc, h.imp_right fun ⟨g, o, h0, h1, h2⟩ => ⟨g, o, h0, h1, fun i hi => kc_set (fun he => by injection he; omega) (h2 i hi)⟩⟩
theorem rdF_own {W : World} {base n m : Nat} {a : Option Addr} {xs : List Int} (hn : xs.length = n) (h : W.ownsRow base 3 1 (.slice a n m) n (xs.map (Value.int .i64))) : RdF base W (.slice a n m) xs := by
  obtain ⟨a', cap, he, hc, hr⟩ := rd_own hn h
  refine ⟨a', cap, he, hc, hr.imp_right ?_⟩
  rintro ⟨g, o, rfl, h2⟩
  refine ⟨g, o, ?_, rfl, h2⟩
  simp only [Value.slice.injEq] at he
  obtain ⟨rfl, _, _⟩ := he
  rcases h.2 with ⟨h1, _⟩ | ⟨g', cap', cur, h1, h3, _⟩
  · cases h1
  · simp only [Value.slice.injEq, Option.some.injEq, Addr.mk.injEq] at h1
    omega

theorem run_app0 {w : World} (ty g : Nat) (ao : Option Addr) (m c : Nat) (xs : List Int) (hm : xs.length = m) (hr : xs = [] ∨ ∃ g o, ao = some ⟨g, o, none⟩ ∧ ∀ i, i < xs.length → w.cell? ⟨g, o + i, none⟩ = some (.int .i64 (xs.getD i 0)))
    (hb : m ≤ 1099511627776) :
    ∃ ao' cap' w', (Builtin.append_ #[35, 35] ty #[.slice (some ⟨g, 0, none⟩) 0 0, .slice ao m c]).run Try.prog w = .ok (.slice ao' m cap') w' ∧ Hid (RdF w.heap.size w' (.slice ao' m cap') xs) ∧ Below w.heap.size w w' := by
  obtain ⟨i0, hi, hz0, hz1, hz2⟩ := info_parts (show (Try.prog.info? 3).map (fun i => (i.zero, i.size, i.bytes)) = some (some (.int .i64 0), 1, 8) by kernel_rfl)
  rcases hr with rfl | ⟨g', o, rfl, hr⟩
  · subst hm
    refine ⟨some ⟨g, 0, none⟩, 0, w, ?_, ⟨_, _, rfl, Nat.zero_le _, .inl rfl⟩, Below.refl _ _⟩
    cases ao
    all_goals simp [loadCells, loadCellsFrom, Builtin.append_, run_underlying Try.underlying35, sizeOf, typeInfo, hi, Builtin.lenOf, Builtin.firstCells, storeCells]
  · subst hm
    by_cases h0 : xs.length = 0
    · have : xs = [] := List.eq_nil_of_length_eq_zero h0
      subst this
      refine ⟨some ⟨g, 0, none⟩, 0, w, ?_, ⟨_, _, rfl, Nat.zero_le _, .inl rfl⟩, Below.refl _ _⟩
      simp [loadCells, loadCellsFrom, Builtin.append_, run_underlying Try.underlying35, sizeOf, typeInfo, hi, Builtin.lenOf, Builtin.firstCells, storeCells]
    · obtain ⟨v', w', hrun, ho, hgr⟩ := run_append_arg_grows (P := Try.prog) (w := w) 35 ty 3 i0 _ 1 8 Try.underlying35 hi hz0 hz1 hz2 rfl (by decide) ⟨g, 0, none⟩ 0 0 [] rfl (fun j u h => by simp at h)
        ⟨g', o, none⟩ xs.length c (xs.map (Value.int .i64)) (by simp) (fun j u h => by
          obtain ⟨hj, he⟩ := List.getElem?_eq_some_iff.1 h
          simp only [List.length_map] at hj
          have := hr j hj
          rw [← he]
          simp only [List.getElem_map]
          rw [List.getD_eq_getElem?_getD, List.getElem?_eq_getElem hj, Option.getD_some] at this
          rw [Addr.add_lit]
          exact this) (by omega) (by unfold maxLen; omega) (by omega)
      rw [List.nil_append, Nat.zero_add] at ho
      obtain ⟨a', cap', rfl⟩ := own_slice ho
      exact ⟨a', cap', w', hrun, rdF_own rfl ho, (Below.refl _ _).grown hgr (Nat.le_refl _) (fun _ h => by cases h)⟩

/-- The step of a region: such a copy. -/
theorem step_app0 {ops : Array Oper} {o : Oper} {a : Act} {w : World} {K : Act → World → Prop} {Q : Exit → Act → World → Prop} {E : Prop} (hgd : o.guard = none) (s x : Operand)
    (hop : o.op = Op.call { callee := Callee.builtin Builtin.append, args := #[s, x], argTypes := #[35, 35] }) (g : Nat) (hs : a.eval s = .slice (some ⟨g, 0, none⟩) 0 0)
    (ao : Option Addr) (m c : Nat) (hx : a.eval x = .slice ao m c) (xs : List Int) (hm : xs.length = m) (hr : xs = [] ∨ ∃ g o, ao = some ⟨g, o, none⟩ ∧ ∀ i, i < xs.length → w.cell? ⟨g, o + i, none⟩ = some (.int .i64 (xs.getD i 0)))
    (hb : m ≤ 1099511627776)
    (hK : ∀ ao' cap' w', Hid (RdF w.heap.size w' (.slice ao' m cap') xs) → Below w.heap.size w w' → K (a.put o.dst (.slice ao' m cap')) w') :
    if Region.wanted o (yielded ops a.tmps) = true then Oper.wp Try.prog o a w K Q else E := by
  have hw : Region.wanted o (yielded ops a.tmps) = true := by simp [Region.wanted, hgd]
  rw [if_pos hw]
  obtain ⟨ao', cap', w', hrun, h1, h2⟩ := run_app0 (w := w) o.type g ao m c xs hm hr hb
  unfold Oper.wp
  simp [execOp, hop, resolve, invoke, builtin, hs, hx, hrun, Result.andThen]
  exact hK ao' cap' w' h1 h2

theorem wpList_app0 {w : World} {ops : Array Oper} {rest : List Oper} {o : Oper} {a : Act} {Q : Exit → Act → World → Prop} (hgd : o.guard = none) (s x : Operand)
    (hop : o.op = Op.call { callee := Callee.builtin Builtin.append, args := #[s, x], argTypes := #[35, 35] }) (g : Nat) (hs : a.eval s = .slice (some ⟨g, 0, none⟩) 0 0)
    (ao : Option Addr) (m c : Nat) (hx : a.eval x = .slice ao m c) (xs : List Int) (hm : xs.length = m) (hr : xs = [] ∨ ∃ g o, ao = some ⟨g, o, none⟩ ∧ ∀ i, i < xs.length → w.cell? ⟨g, o + i, none⟩ = some (.int .i64 (xs.getD i 0)))
    (hb : m ≤ 1099511627776)
    (hK : ∀ ao' cap' w', Hid (RdF w.heap.size w' (.slice ao' m cap') xs) → Below w.heap.size w w' → wpList Try.prog ops Q rest (a.put o.dst (.slice ao' m cap')) w') :
    wpList Try.prog ops Q (o :: rest) a w := by
  refine wpList_plain hgd fun K hK2 => ?_
  obtain ⟨ao', cap', w', hrun, h1, h2⟩ := run_app0 (w := w) o.type g ao m c xs hm hr hb
  unfold Oper.wp
  simp [execOp, hop, resolve, invoke, builtin, hs, hx, hrun, Result.andThen]
  exact hK2 _ _ (hK ao' cap' w' h1 h2)
end Go.Proofs.Ytmigddempeecoaa
