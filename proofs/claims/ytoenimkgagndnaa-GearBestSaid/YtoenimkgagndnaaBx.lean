/- Texts that gearBest_holds reaches: CameT, GBestR. -/
import Derived.Test.YtoenimkgagndnaaBt
import Derived.Test.YtoenimkgagndnaaBg
import Derived.Test.YtoenimkgagndnaaBw
namespace Go.Proofs.Ytoenimkgagndnaa
set_option linter.unusedVariables false
set_option linter.unusedSimpArgs false
open Go.ChangeShapes Go.WideShapes Go.ChangeAt Go.RowKit Go.Deep

/-- A slice of integers that came in. -/
theorem rd_came {H : Type} {enc : TypeId × Value → H} {W : World} {n : Nat} {v : Value} {y : DataW H × List MemPlace} (h : DataW.trod enc Try.prog W 0 (fun _ => true) true n 35 [v] = some y) :
    ∃ a l c xs, v = .slice a l c ∧ c ≤ maxLen ∧ Rd W (.slice a l c) xs := by
  rcases open_ints Try.underlying35 Try.underlying3 (by kernel_rfl) h with ⟨h1, _⟩ | ⟨a, len, cap, zs, h1, _, hl, hc, hz, _, hcell, _⟩
  · simp only [List.cons.injEq, and_true] at h1
    exact ⟨none, 0, 0, [], h1, Nat.zero_le _, ⟨none, 0, rfl, Nat.le_refl _, .inl rfl⟩⟩
  · simp only [List.cons.injEq, and_true] at h1
    simp only [if_true] at hz
    have hlen : (zs.take len).length = len := by rw [List.length_take, hz]; omega
    refine ⟨some a, len, cap, zs.take len, h1, hc, ⟨some a, cap, by rw [hlen], by omega, ?_⟩⟩
    by_cases h0 : len = 0
    · exact .inl (by subst h0; simp)
    · obtain ⟨g, o, sp⟩ := a
      have hsp : sp = none := by
        have := hcell 0 (by omega)
        cases sp with
        | none => rfl
        | some s =>
          simp [Addr.add, World.cell?] at this
          split at this <;> cases this
      subst hsp
      refine .inr ⟨g, o, rfl, fun i hi => ?_⟩
      rw [hlen] at hi
      have := hcell i (by omega)
      rw [Addr.add_lit] at this
      rw [this]
      simp [List.getElem?_take, hi]

theorem five_of {α : Type} {cs : Array α} (h : cs.size = 5) : ∃ a b c d e, cs = #[a, b, c, d, e] := by
  obtain ⟨l⟩ := cs
  match l, h with
  | [a, b, c, d, e], _ => exact ⟨a, b, c, d, e, rfl⟩

set_option maxRecDepth 100000 in
/-- Limits of a search that came in: five integers. -/
theorem teeth_came {H : Type} {enc : TypeId × Value → H} {W : World} {r : Reach} {b0 : Nat} {v : Value} {d : DataW H} {p : List MemPlace} (hv : Value.okWide Try.prog W r b0 54 v) (h : DataW.Trod enc Try.prog W 0 (fun _ => true) true 54 v d p) :
    ∃ a b c e k : Int, v = .agg #[.int .i64 a, .int .i64 b, .int .i64 c, .int .i64 e, .int .i64 k] ∧ (-9223372036854775808 ≤ a ∧ a ≤ 9223372036854775807) ∧ (-9223372036854775808 ≤ b ∧ b ≤ 9223372036854775807) ∧ (-9223372036854775808 ≤ c ∧ c ≤ 9223372036854775807) ∧ (-9223372036854775808 ≤ e ∧ e ≤ 9223372036854775807) ∧ (-9223372036854775808 ≤ k ∧ k ≤ 9223372036854775807) := by
  obtain ⟨cs, rfl, hsz⟩ := okWide_struct Try.underlying54 hv
  obtain ⟨u0, u1, u2, u3, u4, rfl⟩ := five_of (hsz.trans (by kernel_rfl))
  obtain ⟨fuel, hf⟩ := h
  obtain ⟨xs, n, _, _, _, hlen, hf⟩ := DataW.trod_struct Try.underlying54 hf
  have key : ∀ (i : Nat) (f : Field) (u : Value) (l : List Value), DataW.trod enc Try.prog W 0 (fun _ => true) true n f.type l = xs[i]? → f.type = 3 → l = [u] → i < xs.length → ∃ a, u = .int .i64 a ∧ (Lit.int IntKind.i64 a).wf = true := by
    intro i f u l hx ht hu hi
    rw [hu, ht, List.getElem?_eq_getElem hi] at hx
    exact int_came hx
  have hl : xs.length = 5 := hlen
  have c1 : Try.prog.cellsOf 3 = 1 := by kernel_rfl
  obtain ⟨a, rfl, wa⟩ := key 0 _ u0 _ (hf 0 _ rfl) rfl (by simp [Value.cells, c1]) (by omega)
  obtain ⟨b, rfl, wb⟩ := key 1 _ u1 _ (hf 1 _ rfl) rfl (by simp [Value.cells, c1]) (by omega)
  obtain ⟨c, rfl, wc⟩ := key 2 _ u2 _ (hf 2 _ rfl) rfl (by simp [Value.cells, c1]) (by omega)
  obtain ⟨e, rfl, we⟩ := key 3 _ u3 _ (hf 3 _ rfl) rfl (by simp [Value.cells, c1]) (by omega)
  obtain ⟨k, rfl, wk⟩ := key 4 _ u4 _ (hf 4 _ rfl) rfl (by simp [Value.cells, c1]) (by omega)
  exact ⟨a, b, c, e, k, rfl, wf_bd wa, wf_bd wb, wf_bd wc, wf_bd we, wf_bd wk⟩
end Go.Proofs.Ytoenimkgagndnaa
namespace Go.Proofs.Ytoenimkgagndnaa
set_option linter.unusedVariables false
set_option linter.unusedSimpArgs false
open Go.ChangeShapes Go.WideShapes Go.ChangeAt Go.RowKit

/-- The ratio of a good train in lowest terms. -/
theorem fr_ratio {us vs : List Int} (h : okT 6 us vs) : ∃ tn td : Int, ratV us vs = .tuple #[.agg #[.int .i64 tn, .int .i64 td], .int .i64 0] ∧ okF tn td ∧ 1 ≤ tn ∧ prodL us * td = tn * prodL vs := by
  obtain ⟨⟨h1, h2⟩, h3, h4, h5⟩ := id h
  have b1 := prodN_bd (xs := us) (k := us.length) (by omega) (Nat.le_refl _) (all_getD.1 h4)
  have b2 := prodN_bd (xs := vs) (k := vs.length) (by omega) (Nat.le_refl _) (all_getD.1 h5)
  have c1 := prodL_bd (xs := us) (k := us.length) (Nat.le_refl _) (all_getD.1 h4)
  have c2 := prodL_bd (xs := vs) (k := vs.length) (Nat.le_refl _) (all_getD.1 h5)
  rw [List.take_length] at b1 b2 c1 c2
  refine ⟨frN (prodN us) (prodN vs), frD (prodN us) (prodN vs), rat_good h, fr_ok (by omega) (by omega) (by omega), ?_, ?_⟩
  · unfold frN
    have hd : 1 ≤ prodN us / Nat.gcd (prodN us) (prodN vs) := Nat.div_pos (Nat.gcd_le_left _ b1.1) (Nat.gcd_pos_of_pos_left _ b1.1)
    omega
  · have e1 : prodL us = ((prodN us : Nat) : Int) := by unfold prodN; omega
    have e2 : prodL vs = ((prodN vs : Nat) : Int) := by unfold prodN; omega
    rw [e1, e2]
    unfold frN frD
    have d1 := Nat.div_mul_cancel (Nat.gcd_dvd_left (prodN us) (prodN vs))
    have d2 := Nat.div_mul_cancel (Nat.gcd_dvd_right (prodN us) (prodN vs))
    generalize Nat.gcd (prodN us) (prodN vs) = g at *
    generalize prodN us / g = p at *
    generalize prodN vs / g = q at *
    rw [← d1, ← d2, Int.natCast_mul, Int.natCast_mul, Int.mul_assoc, Int.mul_comm (g : Int) (q : Int)]

theorem gearBest_core (a b : Option Addr) (n c' m e' N M : Nat) (us vs xs ys : List Int) (l0 l1 l2 l3 l4 m0 m1 m2 m3 m4 zn zd : Int) (w : World)
    (HX : Hid (Rd w (.slice a n c') xs)) (HY : Hid (Rd w (.slice b m e') ys))
    (HNar : ∀ W, Hid (Calls Try.prog 48 #[.agg #[.int .i64 l0, .int .i64 l1, .int .i64 l2, .int .i64 l3, .int .i64 l4], .int .i64 11] W fun v w' => v = .returned (.agg #[.int .i64 m0, .int .i64 m1, .int .i64 m2, .int .i64 m3, .int .i64 m4]) ∧ Below W.heap.size W w'))
    (HF2 : ∀ W, Rd W (.slice a n c') xs → Rd W (.slice b m e') ys → Hid (Calls Try.prog 32 #[.agg #[.slice a n c', .slice b m e']] W fun v w' => ∃ a' c'' b' e'', v = .returned (.agg #[.slice a' N c'', .slice b' M e'']) ∧ Hid (RdF W.heap.size w' (.slice a' N c'') us) ∧ Hid (RdF W.heap.size w' (.slice b' M e'') vs) ∧ Below W.heap.size W w'))
    (hl : vlF m0 m1 m2 m3 m4 = true) (hNu : us.length = N) (hMv : vs.length = M) (hN : N ≤ 8) (hM : M ≤ 8) :
    Calls Try.prog 14 #[.agg #[.slice a n c', .slice b m e'], .agg #[.int .i64 l0, .int .i64 l1, .int .i64 l2, .int .i64 l3, .int .i64 l4], .agg #[.int .i64 zn, .int .i64 zd]] w fun e w' => e = .returned (.bool true) ∧ Below w.heap.size w w' := by
  have k3 : m4 ≤ 3 := ((vlF_iff m0 m1 m2 m3 m4).1 hl).2.2.2
  by_cases hf : FitP us vs m0 m1 m2 m3 m4
  · have hok := fit_six hf k3
    obtain ⟨tn, td, hrt, ho, t1, hr⟩ := fr_ratio hok
    have hb := okF_bd ho
    have hc := cs_zero ho hl (by omega)
    obtain ⟨g1, g2⟩ := exS_good (cs_fine hc) rfl
    generalize hT : exS tn td m0 m1 m2 m3 m4.toNat 1 = T at g1 g2
    rcases Int.lt_or_le T.n 1 with h | h
    · exact absurd hr (g1 h us vs hf)
    · obtain ⟨st, hst⟩ : ∃ st : Nat, T.n = st := ⟨T.n.toNat, by omega⟩
      obtain ⟨f1, f2, f3, f4, f5⟩ := g2 st hst (by omega)
      have s3 : st ≤ 3 := by have := f1.1.1.2; omega
      exact gearBest_with a b n c' m e' N M us vs xs ys l0 l1 l2 l3 l4 m0 m1 m2 m3 m4 zn zd w HX HY HNar HF2 tn td _ _ st t1 hb.2.2.2 hb.1 hb.2.1 ho f4 f5 s3 (fit_six f1 k3) f1 f2 (fun W => Lib.hid (exact_found hc hT hst (by omega) f4 f5 W)) hN hM hl ⟨fun _ => hf, fun _ => rfl⟩ hNu hMv (f3 us vs hf hr) hrt hok
  · have hV : false = true ↔ FitP us vs m0 m1 m2 m3 m4 := ⟨fun h => (by cases h), fun h => absurd h hf⟩
    by_cases ho : okF zn zd
    · rcases Int.lt_or_le 0 zn with hz | hz
      · have hb := okF_bd ho
        have hc := cs_zero ho hl hz
        obtain ⟨g1, g2⟩ := exS_good (cs_fine hc) rfl
        generalize hT : exS zn zd m0 m1 m2 m3 m4.toNat 1 = T at g1 g2
        rcases Int.lt_or_le T.n 1 with h | h
        · exact gearBest_none a b n c' m e' N M us vs xs ys l0 l1 l2 l3 l4 m0 m1 m2 m3 m4 0 0 w HX HY HNar HF2 zn zd hz ho (fun W => Lib.hid (exact_none hc (by rw [hT]; exact h) W)) hN hM hl hV
        · obtain ⟨st, hst⟩ : ∃ st : Nat, T.n = st := ⟨T.n.toNat, by omega⟩
          obtain ⟨f1, f2, _, f4, f5⟩ := g2 st hst (by omega)
          have s3 : st ≤ 3 := by have := f1.1.1.2; omega
          exact gearBest_other a b n c' m e' N M us vs xs ys l0 l1 l2 l3 l4 m0 m1 m2 m3 m4 0 0 w HX HY HNar HF2 zn zd _ _ st hz hb.2.2.2 hb.1 hb.2.1 ho f4 f5 s3 (fit_six f1 k3) f1 f2 (fun W => Lib.hid (exact_found hc hT hst (by omega) f4 f5 W)) hN hM hl hV
      · exact gearBest_low a b n c' m e' N M us vs xs ys l0 l1 l2 l3 l4 m0 m1 m2 m3 m4 zn zd w HX HY HNar HF2 ho hz hN hM hl hV
    · exact gearBest_form a b n c' m e' N M us vs xs ys l0 l1 l2 l3 l4 m0 m1 m2 m3 m4 zn zd w HX HY HNar HF2 ho hN hM hl hV

theorem gearBest_walk (a b : Option Addr) (n c' m e' : Nat) (xs ys : List Int) (l0 l1 l2 l3 l4 zn zd : Int) (w : World) (hx : Rd w (.slice a n c') xs) (hy : Rd w (.slice b m e') ys) (hc : c' ≤ maxLen) (he : e' ≤ maxLen)
    (_bd : (-9223372036854775808 ≤ l0 ∧ l0 ≤ 9223372036854775807) ∧ (-9223372036854775808 ≤ l1 ∧ l1 ≤ 9223372036854775807) ∧ (-9223372036854775808 ≤ l2 ∧ l2 ≤ 9223372036854775807) ∧ (-9223372036854775808 ≤ l3 ∧ l3 ≤ 9223372036854775807) ∧ (-9223372036854775808 ≤ l4 ∧ l4 ≤ 9223372036854775807)) (_hn : -9223372036854775808 ≤ zn ∧ zn ≤ 9223372036854775807) (_hd : -9223372036854775808 ≤ zd ∧ zd ≤ 9223372036854775807) :
    Calls Try.prog 14 #[.agg #[.slice a n c', .slice b m e'], .agg #[.int .i64 l0, .int .i64 l1, .int .i64 l2, .int .i64 l3, .int .i64 l4], .agg #[.int .i64 zn, .int .i64 zd]] w fun e w' => e = .returned (.bool true) ∧ Below w.heap.size w w' := by
  have HFew := fun W h1 h2 => Lib.hid (few_any a b n c' m e' xs ys W h1 h2 hc he)
  have p1 : (xs.take 8).length ≤ 8 := List.length_take_le _ _
  have p2 : (ys.take 8).length ≤ 8 := List.length_take_le _ _
  generalize xs.take 8 = us at *
  generalize ys.take 8 = vs at *
  obtain ⟨N, hN⟩ : ∃ N, us.length = N := ⟨_, rfl⟩
  obtain ⟨M, hM⟩ : ∃ M, vs.length = M := ⟨_, rfl⟩
  simp only [hN, hM] at HFew
  rw [hN] at p1
  rw [hM] at p2
  have HNar := fun W => Lib.hid (narrow11_any l0 l1 l2 l3 l4 W)
  by_cases hl : vlF l0 l1 l2 l3 l4 = true
  · simp only [if_pos hl] at HNar
    have hlm : vlF l0 (min l1 (l0 + 11)) l2 (min l3 (l2 + 5)) l4 = true := by
      have h := (vlF_iff l0 l1 l2 l3 l4).1 hl
      exact (vlF_iff l0 (min l1 (l0 + 11)) l2 (min l3 (l2 + 5)) l4).2 (by omega)
    exact gearBest_core a b n c' m e' N M us vs xs ys l0 l1 l2 l3 l4 l0 (min l1 (l0 + 11)) l2 (min l3 (l2 + 5)) l4 zn zd w (Lib.hid hx) (Lib.hid hy) HNar HFew hlm hN hM p1 p2
  · simp only [if_neg hl] at HNar
    exact gearBest_bad a b n c' m e' N M us vs xs ys l0 l1 l2 l3 l4 l0 l1 l2 l3 l4 zn zd w (Lib.hid hx) (Lib.hid hy) HNar HFew (by simpa using hl)

set_option maxRecDepth 100000 in
theorem gearBest_lifted (os : Os) (started : os.Started) (H : Type) (enc : TypeId × Value → H) :
    ReturnsInHanded {} Try.checked os 14 .any (Rows.gearBestSpec.pre6 enc Try.prog Try.f14 Rows.gearBestRow.domain false) (Rows.gearBestSpec.post enc Try.prog Try.f14 false true false false) := by
  refine returnsInHanded_of_change (C := Try.checked) law_own started (by kernel_rfl) Try.func14
    (ChangeSpec.witness6 (enc := enc) (C := Try.checked) false ⟨#[], #[.agg #[.slice none 0 0, .slice none 0 0], .agg #[.int .i64 0, .int .i64 0, .int .i64 0, .int .i64 0, .int .i64 0], .agg #[.int .i64 0, .int .i64 0]], []⟩ 8 (by kernel_rfl) (by kernel_rfl) (by kernel_rfl) (by kernel_rfl)) ?_
  intro W base args ds gs before hval0 hW hcnd _
  have hval : ∀ (j : Nat) t v, Try.f14.params[j]? = some t → args[j]? = some v → Value.okWide Try.prog W .any base t v := hval0
  have hW' := hW
  obtain ⟨p, q, hA0, hV, rfl, hfz, hnd⟩ := hW
  have hA : DataW.TrodAll enc Try.prog W 0 (fun _ => true) true Try.f14.params.toList args.toList ds p := hA0
  have hA1 := hA
  rw [Try.params14] at hA hval
  obtain ⟨v0, vs0, d0, ds0, p0, q0, hargs, rfl, rfl, h0, r0⟩ := trodAll_cons hA
  obtain ⟨v1, vs1, d1, ds1, p1, q1, rfl, rfl, rfl, h1, r1⟩ := trodAll_cons r0
  obtain ⟨v2, vs2, d2, ds2, p2, q2, rfl, rfl, rfl, h2, r2⟩ := trodAll_cons r1
  obtain ⟨rfl, rfl, rfl⟩ := trodAll_nil r2
  obtain rfl : args = #[v0, v1, v2] := by cases args; simp_all
  obtain ⟨rfl, rfl⟩ := trodVars_none hV
  obtain ⟨f0a, f0b, y0a, y0b, nn0, rfl, _, _, k0a, k0b⟩ := Joins.open_agg2 Try.underlying52 (by kernel_rfl) (by kernel_rfl) (hval 0 _ _ rfl rfl) h0
  obtain ⟨a0, n0, c0, xs0, rfl, hc0, hx0⟩ := rd_came k0a
  obtain ⟨b0, m0, e0, ys0, rfl, he0, hy0⟩ := rd_came k0b
  obtain ⟨l10, l11, l12, l13, l14, rfl, bd1⟩ := teeth_came (hval 1 _ _ rfl rfl) h1
  obtain ⟨f2a, f2b, y2a, y2b, nn2, rfl, _, _, k2a, k2b⟩ := Joins.open_agg2 Try.underlying23 (by kernel_rfl) (by kernel_rfl) (hval 2 _ _ rfl rfl) h2
  obtain ⟨a2, rfl, w2⟩ := int_came k2a
  obtain ⟨b2, rfl, z2⟩ := int_came k2b
  simp only [List.append_nil] at hW' hA1
  refine (gearBest_walk a0 b0 n0 c0 m0 e0 xs0 ys0 l10 l11 l12 l13 l14 a2 b2 W hx0 hy0 hc0 he0 bd1 (wf_bd w2) (wf_bd z2) ).mono fun e W' ⟨he, hb⟩ => ?_
  subst he
  exact ⟨_, rfl, law_post hW' hA1 hb rfl (by kernel_rfl) rfl rfl⟩

/-- The statement. -/
theorem gearBest_holds : Rows.GearBestSaid :=
  OpenClaim.holds_of_wide 14 Try.f14 rfl rfl rfl rfl rfl rfl rfl ⟨rfl, rfl, rfl, rfl, rfl⟩ rfl rfl rfl rfl rfl (by kernel_rfl) Try.func14 (by kernel_rfl)
    (of_decide_eq_true (by kernel_rfl)) (by unfold Func.isWrapper; first | (rw [if_pos (by decide +kernel)]; kernel_rfl) | (rw [if_neg (by decide +kernel)]; exact ⟨rfl, rfl⟩))
    (fun os started H enc _ => gearBest_lifted os started H enc)
#print axioms gearBest_holds
end Go.Proofs.Ytoenimkgagndnaa
