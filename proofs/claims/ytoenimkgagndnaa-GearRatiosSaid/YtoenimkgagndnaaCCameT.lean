/- Trains and limits that came in. -/
import Derived.Test.YtoenimkgagndnaaCCame
import Derived.Test.YtoenimkgagndnaaGb
namespace Go.Proofs.Ytoenimkgagndnaa
set_option linter.unusedVariables false
set_option linter.unusedSimpArgs false
open Go.ChangeShapes Go.WideShapes Go.ChangeAt Go.RowKit Go.Deep

/-- A slice of integers that came in. -/
theorem rd_came {H : Type} {enc : TypeId × Value → H} {W : World} {n : Nat} {v : Value} {y : DataW H × List MemPlace} (h : DataW.trod enc Try.prog W 0 (fun _ => true) true n 35 [v] = some y) :
    ∃ a l c xs, v = .slice a l c ∧ c ≤ maxLen ∧ Rd W (.slice a l c) xs := by
  rcases open_ints Try.underlying35 Try.underlying3 (by kernel_rfl) h with ⟨h1, _⟩ | ⟨a, len, cap, zs, h1, _, hl, hc, hz, _, hcell, _⟩
  · simp only [List.cons.injEq, and_true] at h1
    exact ⟨none, 0, 0, [], h1, Nat.zero_le _, ⟨none, 0, rfl, Nat.le_refl _, .inl rfl⟩⟩
  · simp only [List.cons.injEq, and_true] at h1
    simp only [if_true] at hz
    have hlen : (zs.take len).length = len := by rw [List.length_take, hz]; omega
    refine ⟨some a, len, cap, zs.take len, h1, hc, ⟨some a, cap, by rw [hlen], by omega, ?_⟩⟩
    by_cases h0 : len = 0
    · exact .inl (by subst h0; simp)
    · obtain ⟨g, o, sp⟩ := a
      have hsp : sp = none := by
        have := hcell 0 (by omega)
        cases sp with
        | none => rfl
        | some s =>
          simp [Addr.add, World.cell?] at this
          split at this <;> cases this
      subst hsp
      refine .inr ⟨g, o, rfl, fun i hi => ?_⟩
      rw [hlen] at hi
      have := hcell i (by omega)
      rw [Addr.add_lit] at this
      rw [this]
      simp [List.getElem?_take, hi]

theorem five_of {α : Type} {cs : Array α} (h : cs.size = 5) : ∃ a b c d e, cs = #[a, b, c, d, e] := by
  obtain ⟨l⟩ := cs
  match l, h with
  | [a, b, c, d, e], _ => exact ⟨a, b, c, d, e, rfl⟩

set_option maxRecDepth 100000 in
/-- Limits of a search that came in: five integers. -/
theorem teeth_came {H : Type} {enc : TypeId × Value → H} {W : World} {r : Reach} {b0 : Nat} {v : Value} {d : DataW H} {p : List MemPlace} (hv : Value.okWide Try.prog W r b0 54 v) (h : DataW.Trod enc Try.prog W 0 (fun _ => true) true 54 v d p) :
    ∃ a b c e k : Int, v = .agg #[.int .i64 a, .int .i64 b, .int .i64 c, .int .i64 e, .int .i64 k] ∧ (-9223372036854775808 ≤ a ∧ a ≤ 9223372036854775807) ∧ (-9223372036854775808 ≤ b ∧ b ≤ 9223372036854775807) ∧ (-9223372036854775808 ≤ c ∧ c ≤ 9223372036854775807) ∧ (-9223372036854775808 ≤ e ∧ e ≤ 9223372036854775807) ∧ (-9223372036854775808 ≤ k ∧ k ≤ 9223372036854775807) := by
  obtain ⟨cs, rfl, hsz⟩ := okWide_struct Try.underlying54 hv
  obtain ⟨u0, u1, u2, u3, u4, rfl⟩ := five_of (hsz.trans (by kernel_rfl))
  obtain ⟨fuel, hf⟩ := h
  obtain ⟨xs, n, _, _, _, hlen, hf⟩ := DataW.trod_struct Try.underlying54 hf
  have key : ∀ (i : Nat) (f : Field) (u : Value) (l : List Value), DataW.trod enc Try.prog W 0 (fun _ => true) true n f.type l = xs[i]? → f.type = 3 → l = [u] → i < xs.length → ∃ a, u = .int .i64 a ∧ (Lit.int IntKind.i64 a).wf = true := by
    intro i f u l hx ht hu hi
    rw [hu, ht, List.getElem?_eq_getElem hi] at hx
    exact int_came hx
  have hl : xs.length = 5 := hlen
  have c1 : Try.prog.cellsOf 3 = 1 := by kernel_rfl
  obtain ⟨a, rfl, wa⟩ := key 0 _ u0 _ (hf 0 _ rfl) rfl (by simp [Value.cells, c1]) (by omega)
  obtain ⟨b, rfl, wb⟩ := key 1 _ u1 _ (hf 1 _ rfl) rfl (by simp [Value.cells, c1]) (by omega)
  obtain ⟨c, rfl, wc⟩ := key 2 _ u2 _ (hf 2 _ rfl) rfl (by simp [Value.cells, c1]) (by omega)
  obtain ⟨e, rfl, we⟩ := key 3 _ u3 _ (hf 3 _ rfl) rfl (by simp [Value.cells, c1]) (by omega)
  obtain ⟨k, rfl, wk⟩ := key 4 _ u4 _ (hf 4 _ rfl) rfl (by simp [Value.cells, c1]) (by omega)
  exact ⟨a, b, c, e, k, rfl, wf_bd wa, wf_bd wb, wf_bd wc, wf_bd we, wf_bd wk⟩
end Go.Proofs.Ytoenimkgagndnaa
