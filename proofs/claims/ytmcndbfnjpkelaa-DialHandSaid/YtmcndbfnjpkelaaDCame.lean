/- Dates and faces that came in. -/
import Derived.Test.YtmcndbfnjpkelaaCame
namespace Go.Proofs.Ytmcndbfnjpkelaa
set_option linter.unusedVariables false
set_option linter.unusedSimpArgs false
open Go.ChangeShapes Go.WideShapes Go.ChangeAt Go.RowKit Go.Deep

theorem five_of {α : Type} {cs : Array α} (h : cs.size = 5) : ∃ a b c d e, cs = #[a, b, c, d, e] := by
  obtain ⟨l⟩ := cs
  match l, h with
  | [a, b, c, d, e], _ => exact ⟨a, b, c, d, e, rfl⟩
theorem three_of {α : Type} {cs : Array α} (h : cs.size = 3) : ∃ a b c, cs = #[a, b, c] := by
  obtain ⟨l⟩ := cs
  match l, h with
  | [a, b, c], _ => exact ⟨a, b, c, rfl⟩

/-- An integer of Go. -/
def I64 (a : Int) : Prop := -9223372036854775808 ≤ a ∧ a ≤ 9223372036854775807

set_option maxRecDepth 100000 in
theorem face_came {H : Type} {enc : TypeId × Value → H} {W : World} {r : Reach} {b0 : Nat} {v : Value} {d : DataW H} {p : List MemPlace} (hv : Value.okWide Try.prog W r b0 40 v) (h : DataW.Trod enc Try.prog W 0 (fun _ => true) true 40 v d p) :
    ∃ a b c e k : Int, v = .agg #[.int .i64 a, .int .i64 b, .int .i64 c, .int .i64 e, .int .i64 k] ∧ I64 a ∧ I64 b ∧ I64 c ∧ I64 e ∧ I64 k := by
  obtain ⟨cs, rfl, hsz⟩ := okWide_struct Try.underlying40 hv
  obtain ⟨u0, u1, u2, u3, u4, rfl⟩ := five_of (hsz.trans (by kernel_rfl))
  obtain ⟨fuel, hf⟩ := h
  obtain ⟨xs, n, _, _, _, hlen, hf⟩ := DataW.trod_struct Try.underlying40 hf
  have key : ∀ (i : Nat) (f : Field) (u : Value) (l : List Value), DataW.trod enc Try.prog W 0 (fun _ => true) true n f.type l = xs[i]? → f.type = 3 → l = [u] → i < xs.length → ∃ a, u = .int .i64 a ∧ (Lit.int IntKind.i64 a).wf = true := by
    intro i f u l hx ht hu hi
    rw [hu, ht, List.getElem?_eq_getElem hi] at hx
    exact int_came hx
  have hl : xs.length = 5 := hlen
  have c1 : Try.prog.cellsOf 3 = 1 := by kernel_rfl
  obtain ⟨a, rfl, wa⟩ := key 0 _ u0 _ (hf 0 _ rfl) rfl (by simp [Value.cells, c1]) (by omega)
  obtain ⟨b, rfl, wb⟩ := key 1 _ u1 _ (hf 1 _ rfl) rfl (by simp [Value.cells, c1]) (by omega)
  obtain ⟨c, rfl, wc⟩ := key 2 _ u2 _ (hf 2 _ rfl) rfl (by simp [Value.cells, c1]) (by omega)
  obtain ⟨e, rfl, we⟩ := key 3 _ u3 _ (hf 3 _ rfl) rfl (by simp [Value.cells, c1]) (by omega)
  obtain ⟨k, rfl, wk⟩ := key 4 _ u4 _ (hf 4 _ rfl) rfl (by simp [Value.cells, c1]) (by omega)
  exact ⟨a, b, c, e, k, rfl, wf_bd wa, wf_bd wb, wf_bd wc, wf_bd we, wf_bd wk⟩

set_option maxRecDepth 100000 in
theorem date_came {H : Type} {enc : TypeId × Value → H} {W : World} {r : Reach} {b0 : Nat} {v : Value} {d : DataW H} {p : List MemPlace} (hv : Value.okWide Try.prog W r b0 23 v) (h : DataW.Trod enc Try.prog W 0 (fun _ => true) true 23 v d p) :
    ∃ a b c : Int, v = .agg #[.int .i64 a, .int .i64 b, .int .i64 c] ∧ I64 a ∧ I64 b ∧ I64 c := by
  obtain ⟨cs, rfl, hsz⟩ := okWide_struct Try.underlying23 hv
  obtain ⟨u0, u1, u2, rfl⟩ := three_of (hsz.trans (by kernel_rfl))
  obtain ⟨fuel, hf⟩ := h
  obtain ⟨xs, n, _, _, _, hlen, hf⟩ := DataW.trod_struct Try.underlying23 hf
  have key : ∀ (i : Nat) (f : Field) (u : Value) (l : List Value), DataW.trod enc Try.prog W 0 (fun _ => true) true n f.type l = xs[i]? → f.type = 3 → l = [u] → i < xs.length → ∃ a, u = .int .i64 a ∧ (Lit.int IntKind.i64 a).wf = true := by
    intro i f u l hx ht hu hi
    rw [hu, ht, List.getElem?_eq_getElem hi] at hx
    exact int_came hx
  have hl : xs.length = 3 := hlen
  have c1 : Try.prog.cellsOf 3 = 1 := by kernel_rfl
  obtain ⟨a, rfl, wa⟩ := key 0 _ u0 _ (hf 0 _ rfl) rfl (by simp [Value.cells, c1]) (by omega)
  obtain ⟨b, rfl, wb⟩ := key 1 _ u1 _ (hf 1 _ rfl) rfl (by simp [Value.cells, c1]) (by omega)
  obtain ⟨c, rfl, wc⟩ := key 2 _ u2 _ (hf 2 _ rfl) rfl (by simp [Value.cells, c1]) (by omega)
  exact ⟨a, b, c, rfl, wf_bd wa, wf_bd wb, wf_bd wc⟩
end Go.Proofs.Ytmcndbfnjpkelaa
