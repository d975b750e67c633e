/- Texts of one proof, joined: App, Dig, Z, Sizes, Lean, LeanA, App1, IntZ, Plus, Less. -/
import Derived.Test.YtoenimkgagndnaaGd
import Derived.ArgAppend
import Derived.Laws.OwnMore
import Derived.Laws.AppendOwn
/- append to an empty slice of the call's own: a copy of a slice that is only read. -/
namespace Go.Proofs.Ytoenimkgagndnaa
set_option linter.unusedVariables false
set_option linter.unusedSimpArgs false
open Go.RowKit Go.Lib

/-- The same, in blocks from a number on. -/
def RdF (base : Nat) (W : World) (v : Value) (xs : List Int) : Prop :=
  ∃ (a : Option Addr) (cap : Nat), v = .slice a xs.length cap ∧ xs.length ≤ cap ∧ (xs = [] ∨ ∃ g o, base ≤ g ∧ a = some ⟨g, o, none⟩ ∧ ∀ i, i < xs.length → W.cell? ⟨g, o + i, none⟩ = some (.int .i64 (xs.getD i 0)))
theorem RdF.rd {base : Nat} {W : World} {v : Value} {xs : List Int} (h : RdF base W v xs) : Rd W v xs := by
  obtain ⟨a, cap, rfl, hc, h⟩ := h
  exact ⟨a, cap, rfl, hc, h.imp_right fun ⟨g, o, _, h1, h2⟩ => ⟨g, o, h1, h2⟩⟩
theorem RdF.below {base : Nat} {W W1 : World} {v : Value} {xs : List Int} (h : RdF base W v xs) (hb : Below W.heap.size W W1) : RdF base W1 v xs := by
  obtain ⟨a, cap, rfl, hc, h⟩ := h
  exact ⟨a, cap, rfl, hc, h.imp_right fun ⟨g, o, h0, h1, h2⟩ => ⟨g, o, h0, h1, fun i hi => kc_below hb (h2 i hi)⟩⟩
theorem RdF.mono {base b : Nat} {W : World} {v : Value} {xs : List Int} (h : RdF base W v xs) (hb : b ≤ base) : RdF b W v xs := by
  obtain ⟨a, cap, rfl, hc, h⟩ := h
  exact ⟨a, cap, rfl, hc, h.imp_right fun ⟨g, o, h0, h1, h2⟩ => ⟨g, o, Nat.le_trans hb h0, h1, h2⟩⟩
theorem RdF.set {base : Nat} {W : World} {v : Value} {xs : List Int} (h : RdF base W v xs) {b o : Nat} (hb : b < base) (u : Value) : RdF base (W.setCell ⟨b, o, none⟩ u) v xs := by
  obtain ⟨a, cap, rfl, hc, h⟩ := h
  exact ⟨a, cap, rfl, hc, h.imp_right fun ⟨g, o, h0, h1, h2⟩ => ⟨g, o, h0, h1, fun i hi => kc_set (fun he => by injection he; omega) (h2 i hi)⟩⟩
theorem rdF_own {W : World} {base n m : Nat} {a : Option Addr} {xs : List Int} (hn : xs.length = n) (h : W.ownsRow base 3 1 (.slice a n m) n (xs.map (Value.int .i64))) : RdF base W (.slice a n m) xs := by
  obtain ⟨a', cap, he, hc, hr⟩ := rd_own hn h
  refine ⟨a', cap, he, hc, hr.imp_right ?_⟩
  rintro ⟨g, o, rfl, h2⟩
  refine ⟨g, o, ?_, rfl, h2⟩
  simp only [Value.slice.injEq] at he
  obtain ⟨rfl, _, _⟩ := he
  rcases h.2 with ⟨h1, _⟩ | ⟨g', cap', cur, h1, h3, _⟩
  · cases h1
  · simp only [Value.slice.injEq, Option.some.injEq, Addr.mk.injEq] at h1
    omega

theorem run_app0 {w : World} (ty g : Nat) (ao : Option Addr) (m c : Nat) (xs : List Int) (hm : xs.length = m) (hr : xs = [] ∨ ∃ g o, ao = some ⟨g, o, none⟩ ∧ ∀ i, i < xs.length → w.cell? ⟨g, o + i, none⟩ = some (.int .i64 (xs.getD i 0)))
    (hb : m ≤ 1099511627776) :
    ∃ ao' cap' w', (Builtin.append_ #[35, 35] ty #[.slice (some ⟨g, 0, none⟩) 0 0, .slice ao m c]).run Try.prog w = .ok (.slice ao' m cap') w' ∧ Hid (RdF w.heap.size w' (.slice ao' m cap') xs) ∧ Below w.heap.size w w' := by
  obtain ⟨i0, hi, hz0, hz1, hz2⟩ := info_parts (show (Try.prog.info? 3).map (fun i => (i.zero, i.size, i.bytes)) = some (some (.int .i64 0), 1, 8) by kernel_rfl)
  rcases hr with rfl | ⟨g', o, rfl, hr⟩
  · subst hm
    refine ⟨some ⟨g, 0, none⟩, 0, w, ?_, ⟨_, _, rfl, Nat.zero_le _, .inl rfl⟩, Below.refl _ _⟩
    cases ao
    all_goals simp [loadCells, loadCellsFrom, Builtin.append_, run_underlying Try.underlying35, sizeOf, typeInfo, hi, Builtin.lenOf, Builtin.firstCells, storeCells]
  · subst hm
    by_cases h0 : xs.length = 0
    · have : xs = [] := List.eq_nil_of_length_eq_zero h0
      subst this
      refine ⟨some ⟨g, 0, none⟩, 0, w, ?_, ⟨_, _, rfl, Nat.zero_le _, .inl rfl⟩, Below.refl _ _⟩
      simp [loadCells, loadCellsFrom, Builtin.append_, run_underlying Try.underlying35, sizeOf, typeInfo, hi, Builtin.lenOf, Builtin.firstCells, storeCells]
    · obtain ⟨v', w', hrun, ho, hgr⟩ := run_append_arg_grows (P := Try.prog) (w := w) 35 ty 3 i0 _ 1 8 Try.underlying35 hi hz0 hz1 hz2 rfl (by decide) ⟨g, 0, none⟩ 0 0 [] rfl (fun j u h => by simp at h)
        ⟨g', o, none⟩ xs.length c (xs.map (Value.int .i64)) (by simp) (fun j u h => by
          obtain ⟨hj, he⟩ := List.getElem?_eq_some_iff.1 h
          simp only [List.length_map] at hj
          have := hr j hj
          rw [← he]
          simp only [List.getElem_map]
          rw [List.getD_eq_getElem?_getD, List.getElem?_eq_getElem hj, Option.getD_some] at this
          rw [Addr.add_lit]
          exact this) (by omega) (by unfold maxLen; omega) (by omega)
      rw [List.nil_append, Nat.zero_add] at ho
      obtain ⟨a', cap', rfl⟩ := own_slice ho
      exact ⟨a', cap', w', hrun, rdF_own rfl ho, (Below.refl _ _).grown hgr (Nat.le_refl _) (fun _ h => by cases h)⟩

/-- The step of a region: such a copy. -/
theorem step_app0 {ops : Array Oper} {o : Oper} {a : Act} {w : World} {K : Act → World → Prop} {Q : Exit → Act → World → Prop} {E : Prop} (hgd : o.guard = none) (s x : Operand)
    (hop : o.op = Op.call { callee := Callee.builtin Builtin.append, args := #[s, x], argTypes := #[35, 35] }) (g : Nat) (hs : a.eval s = .slice (some ⟨g, 0, none⟩) 0 0)
    (ao : Option Addr) (m c : Nat) (hx : a.eval x = .slice ao m c) (xs : List Int) (hm : xs.length = m) (hr : xs = [] ∨ ∃ g o, ao = some ⟨g, o, none⟩ ∧ ∀ i, i < xs.length → w.cell? ⟨g, o + i, none⟩ = some (.int .i64 (xs.getD i 0)))
    (hb : m ≤ 1099511627776)
    (hK : ∀ ao' cap' w', Hid (RdF w.heap.size w' (.slice ao' m cap') xs) → Below w.heap.size w w' → K (a.put o.dst (.slice ao' m cap')) w') :
    if Region.wanted o (yielded ops a.tmps) = true then Oper.wp Try.prog o a w K Q else E := by
  have hw : Region.wanted o (yielded ops a.tmps) = true := by simp [Region.wanted, hgd]
  rw [if_pos hw]
  obtain ⟨ao', cap', w', hrun, h1, h2⟩ := run_app0 (w := w) o.type g ao m c xs hm hr hb
  unfold Oper.wp
  simp [execOp, hop, resolve, invoke, builtin, hs, hx, hrun, Result.andThen]
  exact hK ao' cap' w' h1 h2

theorem wpList_app0 {w : World} {ops : Array Oper} {rest : List Oper} {o : Oper} {a : Act} {Q : Exit → Act → World → Prop} (hgd : o.guard = none) (s x : Operand)
    (hop : o.op = Op.call { callee := Callee.builtin Builtin.append, args := #[s, x], argTypes := #[35, 35] }) (g : Nat) (hs : a.eval s = .slice (some ⟨g, 0, none⟩) 0 0)
    (ao : Option Addr) (m c : Nat) (hx : a.eval x = .slice ao m c) (xs : List Int) (hm : xs.length = m) (hr : xs = [] ∨ ∃ g o, ao = some ⟨g, o, none⟩ ∧ ∀ i, i < xs.length → w.cell? ⟨g, o + i, none⟩ = some (.int .i64 (xs.getD i 0)))
    (hb : m ≤ 1099511627776)
    (hK : ∀ ao' cap' w', Hid (RdF w.heap.size w' (.slice ao' m cap') xs) → Below w.heap.size w w' → wpList Try.prog ops Q rest (a.put o.dst (.slice ao' m cap')) w') :
    wpList Try.prog ops Q (o :: rest) a w := by
  refine wpList_plain hgd fun K hK2 => ?_
  obtain ⟨ao', cap', w', hrun, h1, h2⟩ := run_app0 (w := w) o.type g ao m c xs hm hr hb
  unfold Oper.wp
  simp [execOp, hop, resolve, invoke, builtin, hs, hx, hrun, Result.andThen]
  exact hK2 _ _ (hK ao' cap' w' h1 h2)
end Go.Proofs.Ytoenimkgagndnaa

/- Digits in base 10000, the least first: what the plain functions on lists of digits give. Plain mathematics; no program. -/
namespace Go.Dig
set_option linter.unusedVariables false
set_option linter.unusedSimpArgs false

def val : List Nat → Nat
  | [] => 0
  | d :: r => d + 10000 * val r
def Ok (xs : List Nat) : Prop := ∀ d ∈ xs, d < 10000
def Canon (xs : List Nat) : Prop := Ok xs ∧ (0 < xs.length → xs.getD (xs.length - 1) 0 ≠ 0)

theorem Ok.nil : Ok [] := fun _ h => by cases h
theorem Ok.getD {xs : List Nat} (h : Ok xs) (i : Nat) : xs.getD i 0 < 10000 := by
  by_cases hi : i < xs.length
  · rw [List.getD_eq_getElem?_getD, List.getElem?_eq_getElem hi]
    exact h _ (List.getElem_mem hi)
  · simp [List.getElem?_eq_none (Nat.le_of_not_lt hi)]
theorem Ok.append {xs ys : List Nat} (h : Ok xs) (k : Ok ys) : Ok (xs ++ ys) := fun d hd => by
  rcases List.mem_append.1 hd with hd | hd
  · exact h d hd
  · exact k d hd
theorem Ok.one {d : Nat} (h : d < 10000) : Ok [d] := fun x hx => by
  simp at hx; omega
theorem Ok.take {xs : List Nat} (h : Ok xs) (i : Nat) : Ok (xs.take i) := fun d hd => h d (List.mem_of_mem_take hd)
theorem Ok.drop {xs : List Nat} (h : Ok xs) (i : Nat) : Ok (xs.drop i) := fun d hd => h d (List.mem_of_mem_drop hd)
theorem Ok.set {xs : List Nat} (h : Ok xs) (i d : Nat) (hd : d < 10000) : Ok (xs.set i d) := fun x hx => by
  rcases List.mem_or_eq_of_mem_set hx with hx | hx
  · exact h x hx
  · omega
theorem Ok.zeros (n : Nat) : Ok (List.replicate n 0) := fun x hx => by
  have := List.eq_of_mem_replicate hx; omega

theorem val_append (xs ys : List Nat) : val (xs ++ ys) = val xs + 10000 ^ xs.length * val ys := by
  induction xs with
  | nil => simp [val]
  | cons x xs ih => simp [val, ih, Nat.pow_succ]; grind
theorem val_zeros (n : Nat) : val (List.replicate n 0) = 0 := by
  induction n with
  | zero => rfl
  | succ n ih => simp [List.replicate_succ, val, ih]
theorem val_snoc (xs : List Nat) (d : Nat) : val (xs ++ [d]) = val xs + 10000 ^ xs.length * d := by
  rw [val_append]; simp [val]
theorem val_take_succ (xs : List Nat) (i : Nat) : val (xs.take (i+1)) = val (xs.take i) + 10000 ^ i * xs.getD i 0 := by
  by_cases h : i < xs.length
  · rw [List.take_succ_eq_append_getElem h, val_append]
    simp [val, Nat.min_eq_left (Nat.le_of_lt h), h]
  · rw [List.take_of_length_le (by omega), List.take_of_length_le (by omega)]
    simp [List.getElem?_eq_none (Nat.le_of_not_lt h)]
theorem val_drop (xs : List Nat) (i : Nat) : val (xs.drop i) = xs.getD i 0 + 10000 * val (xs.drop (i+1)) := by
  by_cases h : i < xs.length
  · rw [List.drop_eq_getElem_cons h]
    simp [val, h]
  · rw [List.drop_of_length_le (by omega), List.drop_of_length_le (by omega)]
    simp [val, List.getElem?_eq_none (Nat.le_of_not_lt h)]
theorem val_split (xs : List Nat) (i : Nat) (h : i ≤ xs.length) : val xs = val (xs.take i) + 10000 ^ i * val (xs.drop i) := by
  have := val_append (xs.take i) (xs.drop i)
  rw [List.take_append_drop, List.length_take, Nat.min_eq_left h] at this
  exact this
theorem val_lt {xs : List Nat} (h : Ok xs) : val xs < 10000 ^ xs.length := by
  induction xs with
  | nil => simp [val]
  | cons x xs ih =>
    have h1 := ih (fun d hd => h d (List.mem_cons_of_mem _ hd))
    have h2 := h x List.mem_cons_self
    simp only [val, List.length_cons, Nat.pow_succ]
    omega
theorem val_ge {xs : List Nat} (h : Canon xs) (hn : 0 < xs.length) : 10000 ^ (xs.length - 1) ≤ val xs := by
  have h0 := h.2 hn
  have h1 := val_split xs (xs.length - 1) (by omega)
  have h2 := val_drop xs (xs.length - 1)
  rw [show xs.length - 1 + 1 = xs.length by omega, List.drop_length] at h2
  simp only [val] at h2
  have h3 : 1 ≤ val (xs.drop (xs.length - 1)) := by omega
  have := Nat.mul_le_mul_left (10000 ^ (xs.length - 1)) h3
  omega
theorem val_zero {xs : List Nat} (h : Canon xs) (hv : val xs = 0) : xs = [] := by
  rcases Nat.eq_zero_or_pos xs.length with h0 | h0
  · exact List.eq_nil_of_length_eq_zero h0
  · have := val_ge h h0
    have : 0 < 10000 ^ (xs.length - 1) := Nat.pow_pos (by omega)
    omega
theorem val_pos_len {xs : List Nat} (hv : 0 < val xs) : 0 < xs.length := by
  rcases xs with _ | ⟨x, xs⟩
  · simp [val] at hv
  · simp
theorem pow_lt_of {a b : Nat} (h : 10000 ^ a ≤ 10000 ^ b) : a ≤ b := (Nat.pow_le_pow_iff_right (by omega)).1 h
theorem len_le {xs : List Nat} (h : Canon xs) {k : Nat} (hv : val xs < 10000 ^ k) : xs.length ≤ k := by
  rcases Nat.eq_zero_or_pos xs.length with h0 | h0
  · omega
  · have h1 := val_ge h h0
    have : 10000 ^ (xs.length - 1) < 10000 ^ k := by omega
    have := (Nat.pow_lt_pow_iff_right (a := 10000) (by omega)).1 this
    omega
theorem lt_of_len {xs ys : List Nat} (h : Canon xs) (k : Canon ys) (hl : xs.length < ys.length) : val xs < val ys := by
  have h1 := val_lt h.1
  have h2 := val_ge k (by omega)
  have h3 : 10000 ^ xs.length ≤ 10000 ^ (ys.length - 1) := Nat.pow_le_pow_right (by omega) (by omega)
  omega
theorem take_ext {xs ys : List Nat} {i : Nat} (hd : ∀ j, i ≤ j → xs.getD j 0 = ys.getD j 0) (hl : xs.length = ys.length) : xs.drop i = ys.drop i := by
  apply List.ext_getElem?
  intro j
  rw [List.getElem?_drop, List.getElem?_drop]
  have := hd (i + j) (by omega)
  by_cases h : i + j < xs.length
  · rw [List.getElem?_eq_getElem h, List.getElem?_eq_getElem (by omega)]
    simp [h, hl ▸ h] at this
    rw [this]
  · rw [List.getElem?_eq_none (by omega), List.getElem?_eq_none (by omega)]
theorem lt_of_digit {xs ys : List Nat} (h : Ok xs) (hl : xs.length = ys.length) {i : Nat} (hi : i < xs.length) (hd : ∀ j, i < j → xs.getD j 0 = ys.getD j 0) (hlt : xs.getD i 0 < ys.getD i 0) : val xs < val ys := by
  have e1 := val_split xs i (by omega)
  have e2 := val_split ys i (by omega)
  have f1 := val_drop xs i
  have f2 := val_drop ys i
  have hdd : xs.drop (i+1) = ys.drop (i+1) := take_ext (fun j hj => hd j (by omega)) hl
  rw [hdd] at f1
  have b1 := val_lt (h.take i)
  rw [List.length_take, Nat.min_eq_left (by omega)] at b1
  have : val (xs.drop i) + 1 ≤ val (ys.drop i) := by omega
  have := Nat.mul_le_mul_left (10000 ^ i) this
  rw [Nat.mul_add] at this
  omega
theorem eq_of_digits {xs ys : List Nat} (hl : xs.length = ys.length) (hd : ∀ j, xs.getD j 0 = ys.getD j 0) : xs = ys := by
  have := take_ext (i := 0) (fun j _ => hd j) hl
  simpa using this

/-- lean: what is cut off is zeros. -/
theorem val_cut {xs : List Nat} {n : Nat} (hn : n ≤ xs.length) (h : ∀ j, n ≤ j → xs.getD j 0 = 0) : val (xs.take n) = val xs := by
  have e := val_split xs n hn
  have : val (xs.drop n) = 0 := by
    have : xs.drop n = List.replicate (xs.length - n) 0 := by
      apply List.ext_getElem?
      intro j
      rw [List.getElem?_drop]
      by_cases hj : n + j < xs.length
      · rw [List.getElem?_eq_getElem hj, List.getElem?_replicate, if_pos (by omega)]
        have := h (n + j) (by omega)
        simp [hj] at this
        rw [this]
      · rw [List.getElem?_eq_none (by omega), List.getElem?_eq_none (by simp; omega)]
    rw [this, val_zeros]
  rw [this] at e
  omega
theorem canon_take {xs : List Nat} {n : Nat} (hn : n ≤ xs.length) (h : Ok xs) (h0 : 0 < n → xs.getD (n - 1) 0 ≠ 0) : Canon (xs.take n) := by
  refine ⟨h.take n, fun hp => ?_⟩
  rw [List.length_take, Nat.min_eq_left hn] at hp ⊢
  have := h0 hp
  simpa [List.getElem?_take, show n - 1 < n by omega] using this

/-- plus: one round. -/
theorem plus_step (P s A B o c x y : Nat) (h : o + c * P = A + B) (hs : s = c + x + y) :
    (o + P * (s % 10000)) + (s / 10000) * (P * 10000) = (A + P * x) + (B + P * y) := by
  have e := Nat.div_add_mod s 10000
  generalize s / 10000 = q at *
  generalize s % 10000 = r at *
  subst hs
  grind
/-- less: one round without and with a borrow. -/
theorem less_step0 (P A B o b x y : Nat) (h : o + B = A + b * P) (hs : b + y ≤ x) :
    (o + P * (x - b - y)) + (B + P * y) = (A + P * x) + 0 * (P * 10000) := by
  obtain ⟨t, rfl⟩ : ∃ t, x = b + y + t := ⟨x - b - y, by omega⟩
  rw [show b + y + t - b - y = t by omega]
  grind
theorem less_step1 (P A B o b x y : Nat) (h : o + B = A + b * P) (hs : x < b + y) (hle : b + y ≤ x + 10000) :
    (o + P * (x + 10000 - b - y)) + (B + P * y) = (A + P * x) + 1 * (P * 10000) := by
  obtain ⟨t, ht⟩ : ∃ t, x + 10000 = b + y + t := ⟨x + 10000 - b - y, by omega⟩
  rw [show x + 10000 - b - y = t by omega]
  grind

theorem val_set {xs : List Nat} {i d : Nat} (hi : i < xs.length) : val (xs.set i d) + 10000 ^ i * xs.getD i 0 = val xs + 10000 ^ i * d := by
  induction xs generalizing i with
  | nil => simp at hi
  | cons x xs ih =>
    cases i with
    | zero => simp [val]; omega
    | succ i =>
      have := ih (i := i) (by simpa using hi)
      simp only [List.set_cons_succ, val, List.getD_cons_succ, Nat.pow_succ]
      generalize val (xs.set i d) = u at *
      generalize val xs = v at *
      generalize xs.getD i 0 = z at *
      grind
theorem mul_step (P s z c x y o o' q r : Nat) (hs : s = z + c + x * y) (hq : q = s / 10000) (hr : r = s % 10000) (ho : o' + P * z = o + P * r) :
    o' + q * (P * 10000) = o + c * P + P * (x * y) := by
  have e := Nat.div_add_mod s 10000
  subst hq hr
  generalize s / 10000 = q at *
  generalize s % 10000 = r at *
  subst hs
  grind
theorem len_pos_of {xs : List Nat} (h : val xs ≠ 0) : 0 < xs.length := val_pos_len (by omega)
theorem canon_nil : Canon [] := ⟨Ok.nil, fun h => by simp at h⟩
theorem val_le_of_ok {xs : List Nat} (h : Ok xs) {k : Nat} (hk : xs.length ≤ k) : val xs < 10000 ^ k := Nat.lt_of_lt_of_le (val_lt h) (Nat.pow_le_pow_right (by omega) hk)
theorem canon_eq {xs ys : List Nat} (h : Canon xs) (k : Canon ys) (hv : val xs = val ys) : xs = ys := by
  have hl : xs.length = ys.length := by
    rcases Nat.lt_trichotomy xs.length ys.length with h1 | h1 | h1
    · have := lt_of_len h k h1; omega
    · exact h1
    · have := lt_of_len k h h1; omega
  refine eq_of_digits hl fun j => ?_
  -- the highest place where they differ
  have key : ∀ n, ∀ j, xs.length ≤ j + n → xs.getD j 0 = ys.getD j 0 := by
    intro n
    induction n with
    | zero =>
      intro j hj
      rw [List.getD_eq_getElem?_getD, List.getD_eq_getElem?_getD, List.getElem?_eq_none (by omega), List.getElem?_eq_none (by omega)]
    | succ n ih =>
      intro j hj
      rcases Nat.lt_or_ge (j + n) xs.length with h1 | h1
      · rcases Nat.lt_trichotomy (xs.getD j 0) (ys.getD j 0) with h2 | h2 | h2
        · have := lt_of_digit h.1 hl (i := j) (by omega) (fun i hi => ih i (by omega)) h2
          omega
        · exact h2
        · have := lt_of_digit k.1 hl.symm (i := j) (by omega) (fun i hi => (ih i (by omega)).symm) h2
          omega
      · exact ih j h1
  exact key xs.length j (by omega)
end Go.Dig

/- Numbers of any size, as they lie in memory: a sign, and digits in base 10000. -/
namespace Go.Proofs.Ytoenimkgagndnaa
set_option linter.unusedVariables false
set_option linter.unusedSimpArgs false
open Go.RowKit Go.Lib Go.Dig

def zi (ds : List Nat) : List Int := ds.map fun d => ((d : Nat) : Int)
theorem zi_len (ds : List Nat) : (zi ds).length = ds.length := by simp [zi]
theorem zi_get (ds : List Nat) (i : Nat) : (zi ds).getD i 0 = ((ds.getD i 0 : Nat) : Int) := by
  unfold zi
  rw [List.getD_eq_getElem?_getD, List.getD_eq_getElem?_getD, List.getElem?_map]
  cases ds[i]? <;> simp
theorem zi_snoc (ds : List Nat) (d : Nat) : zi (ds ++ [d]) = zi ds ++ [(d : Int)] := by simp [zi]
theorem zi_take (ds : List Nat) (k : Nat) : (zi ds).take k = zi (ds.take k) := by simp [zi, List.map_take]

/-- Digits that a slice reads as, in blocks from a number on. -/
def RdD (base : Nat) (W : World) (a : Option Addr) (n c : Nat) (ds : List Nat) : Prop :=
  n = ds.length ∧ n ≤ c ∧ (ds = [] ∨ ∃ g o, base ≤ g ∧ a = some ⟨g, o, none⟩ ∧ ∀ i, i < n → W.cell? ⟨g, o + i, none⟩ = some (.int .i64 ((ds.getD i 0 : Nat) : Int)))
theorem RdD.below {base : Nat} {W W1 : World} {a : Option Addr} {n c : Nat} {ds : List Nat} (h : RdD base W a n c ds) (hb : Below W.heap.size W W1) : RdD base W1 a n c ds :=
  ⟨h.1, h.2.1, h.2.2.imp_right fun ⟨g, o, h0, h1, h2⟩ => ⟨g, o, h0, h1, fun i hi => kc_below hb (h2 i hi)⟩⟩
theorem RdD.mono {base b : Nat} {W : World} {a : Option Addr} {n c : Nat} {ds : List Nat} (h : RdD base W a n c ds) (hb : b ≤ base) : RdD b W a n c ds :=
  ⟨h.1, h.2.1, h.2.2.imp_right fun ⟨g, o, h0, h1⟩ => ⟨g, o, Nat.le_trans hb h0, h1⟩⟩
theorem RdD.set {base : Nat} {W : World} {a : Option Addr} {n c : Nat} {ds : List Nat} (h : RdD base W a n c ds) {b o : Nat} (hb : b < base) (u : Value) : RdD base (W.setCell ⟨b, o, none⟩ u) a n c ds :=
  ⟨h.1, h.2.1, h.2.2.imp_right fun ⟨g, o', h0, h1, h2⟩ => ⟨g, o', h0, h1, fun i hi => kc_set (fun he => by injection he; omega) (h2 i hi)⟩⟩
theorem RdD.of {base : Nat} {W : World} {a : Option Addr} {n c : Nat} {ds : List Nat} (hn : n = ds.length) (h : RdF base W (.slice a n c) (zi ds)) : RdD base W a n c ds := by
  obtain ⟨a', c', he, hc, h⟩ := h
  simp only [Value.slice.injEq, zi_len] at he
  obtain ⟨rfl, _, rfl⟩ := he
  rw [zi_len] at hc
  refine ⟨hn, by omega, ?_⟩
  rcases h with h | ⟨g, o, h0, h1, h2⟩
  · exact .inl (by unfold zi at h; simpa using h)
  · refine .inr ⟨g, o, h0, h1, fun i hi => ?_⟩
    have := h2 i (by rw [zi_len]; omega)
    rwa [zi_get] at this
theorem RdD.nil (base : Nat) (W : World) (a : Option Addr) (c : Nat) : RdD base W a 0 c [] := ⟨rfl, Nat.zero_le _, .inl rfl⟩

/-- A number: its sign, its digits. -/
def Zat (base : Nat) (W : World) (s : Bool) (a : Option Addr) (n c : Nat) (z : Int) : Prop :=
  s = decide (z < 0) ∧ ∃ ds, RdD base W a n c ds ∧ Canon ds ∧ val ds = z.natAbs
theorem Zat.below {base : Nat} {W W1 : World} {s : Bool} {a : Option Addr} {n c : Nat} {z : Int} (h : Zat base W s a n c z) (hb : Below W.heap.size W W1) : Zat base W1 s a n c z :=
  ⟨h.1, h.2.elim fun ds ⟨h1, h2⟩ => ⟨ds, h1.below hb, h2⟩⟩
theorem Zat.mono {base b : Nat} {W : World} {s : Bool} {a : Option Addr} {n c : Nat} {z : Int} (h : Zat base W s a n c z) (hb : b ≤ base) : Zat b W s a n c z :=
  ⟨h.1, h.2.elim fun ds ⟨h1, h2⟩ => ⟨ds, h1.mono hb, h2⟩⟩
theorem Zat.set {base : Nat} {W : World} {s : Bool} {a : Option Addr} {n c : Nat} {z : Int} (h : Zat base W s a n c z) {b o : Nat} (hb : b < base) (u : Value) : Zat base (W.setCell ⟨b, o, none⟩ u) s a n c z :=
  ⟨h.1, h.2.elim fun ds ⟨h1, h2⟩ => ⟨ds, h1.set hb u, h2⟩⟩
theorem Zat.len {base : Nat} {W : World} {s : Bool} {a : Option Addr} {n c : Nat} {z : Int} (h : Zat base W s a n c z) {k : Nat} (hk : z.natAbs < 10000 ^ k) : n ≤ k := by
  obtain ⟨_, ds, ⟨rfl, _⟩, hc, hv⟩ := h
  exact len_le hc (by omega)
theorem Zat.zero {base : Nat} {W : World} {s : Bool} {a : Option Addr} {n c : Nat} {z : Int} (h : Zat base W s a n c z) : n = 0 ↔ z = 0 := by
  obtain ⟨_, ds, ⟨rfl, _⟩, hc, hv⟩ := h
  constructor
  · intro h0
    have : ds = [] := List.eq_nil_of_length_eq_zero h0
    subst this
    simp [val] at hv
    omega
  · rintro rfl
    have := val_zero hc (by simpa using hv)
    rw [this]; rfl
end Go.Proofs.Ytoenimkgagndnaa

/- Numbers of any size: Neg, Abs, Sign, sizes. -/
namespace Go.Proofs.Ytoenimkgagndnaa
set_option linter.unusedVariables false
set_option linter.unusedSimpArgs false
open Go.RowKit Go.Lib Go.Dig

theorem Zat.neg {base : Nat} {W : World} {s : Bool} {a : Option Addr} {n c : Nat} {z : Int} (h : Zat base W s a n c z) : Zat base W (!s && decide (0 < n)) a n c (-z) := by
  have h0 := h.zero
  obtain ⟨hs, ds, h1, h2, h3⟩ := h
  refine ⟨?_, ds, h1, h2, by omega⟩
  subst hs
  by_cases hz : z = 0
  · have := h0.2 hz
    subst this
    subst hz
    rfl
  · have hn : 0 < n := Nat.pos_of_ne_zero fun h => hz (h0.1 h)
    rw [decide_eq_true hn, Bool.and_true, Bool.eq_iff_iff]
    simp
    omega
theorem Zat.abs {base : Nat} {W : World} {s : Bool} {a : Option Addr} {n c : Nat} {z : Int} (h : Zat base W s a n c z) : Zat base W false a n c z.natAbs := by
  obtain ⟨hs, ds, h1, h2, h3⟩ := h
  exact ⟨(decide_eq_false (by omega)).symm, ds, h1, h2, by omega⟩

theorem negZ_any (s : Bool) (a : Option Addr) (n c : Nat) (w : World) :
    Calls Try.prog 89 #[.agg #[.bool s, .slice a n c]] w fun e w' => e = .returned (.agg #[.bool (!s && decide (0 < n)), .slice a n c]) ∧ Gro w w' := by
  cases s
  · by_cases h : 0 < n
    · have h' : (0 : Int) < (n : Int) := by omega
      rw [decide_eq_true h]
      go_enter Try.func89, Try.ntmps89
      go_wp2_with fail
      exact bodyPost_ret (v := .agg #[.bool true, .slice a n c]) (by simp [results, Try.results89, go_sem]) rfl ⟨rfl, by (with_reducible repeat (first | exact gro_refl _ | refine gro_alloc ?_ _ | refine gro_drew ?_ | refine gro_drewN ?_ _ | (refine gro_set ?_ ?_ _; (focus first | omega | (dsimp only; omega)))))⟩
    · obtain rfl : n = 0 := by omega
      go_enter Try.func89, Try.ntmps89
      go_wp2_with fail
      exact bodyPost_ret (v := .agg #[.bool false, .slice a 0 c]) (by simp [results, Try.results89, go_sem]) rfl ⟨rfl, by (with_reducible repeat (first | exact gro_refl _ | refine gro_alloc ?_ _ | refine gro_drew ?_ | refine gro_drewN ?_ _ | (refine gro_set ?_ ?_ _; (focus first | omega | (dsimp only; omega)))))⟩
  · go_enter Try.func89, Try.ntmps89
    go_wp2_with fail
    exact bodyPost_ret (v := .agg #[.bool false, .slice a n c]) (by simp [results, Try.results89, go_sem]) rfl ⟨rfl, by (with_reducible repeat (first | exact gro_refl _ | refine gro_alloc ?_ _ | refine gro_drew ?_ | refine gro_drewN ?_ _ | (refine gro_set ?_ ?_ _; (focus first | omega | (dsimp only; omega)))))⟩

theorem absZ_any (s : Bool) (a : Option Addr) (n c : Nat) (w : World) :
    Calls Try.prog 92 #[.agg #[.bool s, .slice a n c]] w fun e w' => e = .returned (.agg #[.bool false, .slice a n c]) ∧ Gro w w' := by
  go_enter Try.func92, Try.ntmps92
  go_wp2_with fail
  exact bodyPost_ret (v := .agg #[.bool false, .slice a n c]) (by simp [results, Try.results92, go_sem]) rfl ⟨rfl, by (with_reducible repeat (first | exact gro_refl _ | refine gro_alloc ?_ _ | refine gro_drew ?_ | refine gro_drewN ?_ _ | (refine gro_set ?_ ?_ _; (focus first | omega | (dsimp only; omega)))))⟩

theorem signZ_any (s : Bool) (a : Option Addr) (n c : Nat) (w : World) :
    Calls Try.prog 90 #[.agg #[.bool s, .slice a n c]] w fun e w' => e = .returned (.int .i64 (if n = 0 then 0 else if s = true then -1 else 1)) ∧ Gro w w' := by
  by_cases h : n = 0
  · subst h
    go_enter Try.func90, Try.ntmps90
    go_wp2_with fail
    go_ret
    exact ⟨rfl, by (with_reducible repeat (first | exact gro_refl _ | refine gro_alloc ?_ _ | refine gro_drew ?_ | refine gro_drewN ?_ _ | (refine gro_set ?_ ?_ _; (focus first | omega | (dsimp only; omega)))))⟩
  · rw [if_neg h]
    have h' : ((n : Int) == 0) = false := by simpa using h
    clear h
    cases s
    all_goals
      go_enter Try.func90, Try.ntmps90
      go_wp2_with fail
      go_ret
      exact ⟨rfl, by (with_reducible repeat (first | exact gro_refl _ | refine gro_alloc ?_ _ | refine gro_drew ?_ | refine gro_drewN ?_ _ | (refine gro_set ?_ ?_ _; (focus first | omega | (dsimp only; omega)))))⟩
theorem Zat.sign {base : Nat} {W : World} {s : Bool} {a : Option Addr} {n c : Nat} {z : Int} (h : Zat base W s a n c z) : (if n = 0 then (0 : Int) else if s = true then -1 else 1) = cmpZ z 0 := by
  have h0 := h.zero
  obtain ⟨hs, _⟩ := h
  subst hs
  unfold cmpZ
  by_cases hz : z = 0
  · rw [if_pos (h0.2 hz), if_neg (by omega), if_neg (by omega)]
  · rw [if_neg fun h => hz (h0.1 h)]
    by_cases hn : z < 0
    · rw [if_pos (decide_eq_true hn), if_pos hn]
    · rw [if_neg (by simpa using hn), if_neg hn, if_pos (by omega)]

set_option maxHeartbeats 1000000 in
theorem sizes_loop (g o q p n c e : Nat) (xs ys : List Nat) (w : World) (hx : Hid (n = xs.length)) (hy : Hid (n = ys.length)) (cx : Hid (Canon xs)) (cy : Hid (Canon ys)) (hn : n ≤ 4611686018427387904) (hc : n ≤ c) (he : n ≤ e)
    (HX : Hid (∀ i, i < n → w.cell? ⟨g, o + i, none⟩ = some (.int .i64 ((xs.getD i 0 : Nat) : Int)))) (HY : Hid (∀ i, i < n → w.cell? ⟨q, p + i, none⟩ = some (.int .i64 ((ys.getD i 0 : Nat) : Int)))) :
    Calls Try.prog 99 #[.slice (some ⟨g, o, none⟩) n c, .slice (some ⟨q, p, none⟩) n e] w fun v w' => v = .returned (.int .i64 (cmpZ (val xs) (val ys))) ∧ Gro w w' := by
  have t0 : ((n : Int) != (n : Int)) = false := by simp
  go_enter Try.func99, Try.ntmps99
  go_wp2_with fail
  go_loopw [5] (fun t wr => ∃ (i : Int) (m : Nat), -1 ≤ i ∧ i < n ∧ t = .int .i64 i ∧ Hid (∀ j : Nat, i < (j : Int) → xs.getD j 0 = ys.getD j 0) ∧ wr = w.drewN m) (fun t _ => (intOf t + 1).toNat)
  case atStart =>
    refine ⟨(n : Int) - 1, 0, by omega, by omega, rfl, fun j hj => ?_, rfl⟩
    rw [List.getD_eq_getElem?_getD, List.getD_eq_getElem?_getD, List.getElem?_eq_none (by have := hx.out; omega), List.getElem?_eq_none (by have := hy.out; omega)]
  case round =>
    obtain ⟨i, m, i1, i2, rfl, hE, rfl⟩ := hrel
    by_cases h0 : 0 ≤ i
    · obtain ⟨j, rfl⟩ := Int.eq_ofNat_of_zero_le h0
      have hj : j < n := by omega
      have c1 : w.cell? ⟨g, o + j, none⟩ = some (.int .i64 ((xs.getD j 0 : Nat) : Int)) := HX.out j hj
      have c2 : w.cell? ⟨q, p + j, none⟩ = some (.int .i64 ((ys.getD j 0 : Nat) : Int)) := HY.out j hj
      rcases Nat.lt_trichotomy (xs.getD j 0) (ys.getD j 0) with h | h | h
      · have HV : Hid (-1 = cmpZ (val xs) (val ys)) := by
          have := lt_of_digit cx.out.1 (hx.out.symm.trans hy.out) (i := j) (by have := hx.out; omega) (fun k hk => hE.out k (by omega)) h
          exact (cmpZ_lt (by omega)).symm
        generalize xs.getD j 0 = x at *
        generalize ys.getD j 0 = y at *
        have t1 : (x : Int) < (y : Int) := by omega
        clear hE h
        go_wp2_with fail
        go_quiet (fail)
        go_wp2_with fail
        go_ret
        exact ⟨ret_i64 HV.out, by (with_reducible repeat (first | exact gro_refl _ | refine gro_alloc ?_ _ | refine gro_drew ?_ | refine gro_drewN ?_ _ | (refine gro_set ?_ ?_ _; (focus first | omega | (dsimp only; omega)))))⟩
      · have hE2 : Hid (∀ k : Nat, (j : Int) - 1 < (k : Int) → xs.getD k 0 = ys.getD k 0) := fun k hk => by
          rcases (show (j : Int) < k ∨ k = j by omega) with h' | h'
          · exact hE.out k h'
          · rw [h']; exact h
        rw [h] at c1
        generalize ys.getD j 0 = y at *
        clear hE h
        go_wp2_with fail
        go_quiet (fail)
        go_wp2_with fail
        go_quiet (fail)
        go_wp2_with fail
        go_roundw
        case rel => exact ⟨(j : Int) - 1, _, by omega, by omega, rfl, hE2, by first | rfl | (rw [World.drewN_drewN]; done) | (rw [World.drewN_drewN, World.drewN_drewN])⟩
        case measure => first | (simp [intOf]; done) | (simp [intOf]; omega)
      · have HV : Hid (1 = cmpZ (val xs) (val ys)) := by
          have := lt_of_digit cy.out.1 (hy.out.symm.trans hx.out) (i := j) (by have := hy.out; omega) (fun k hk => (hE.out k (by omega)).symm) h
          exact (cmpZ_gt (by omega)).symm
        generalize xs.getD j 0 = x at *
        generalize ys.getD j 0 = y at *
        have t1 : (y : Int) < (x : Int) := by omega
        clear hE h
        go_wp2_with fail
        go_quiet (fail)
        go_wp2_with fail
        go_quiet (fail)
        go_wp2_with fail
        go_ret
        exact ⟨ret_i64 HV.out, by (with_reducible repeat (first | exact gro_refl _ | refine gro_alloc ?_ _ | refine gro_drew ?_ | refine gro_drewN ?_ _ | (refine gro_set ?_ ?_ _; (focus first | omega | (dsimp only; omega)))))⟩
    · obtain rfl : i = -1 := by omega
      have HV : Hid (0 = cmpZ (val xs) (val ys)) := by
        have : xs = ys := eq_of_digits (hx.out.symm.trans hy.out) fun j => hE.out j (by omega)
        rw [this]
        exact (cmpZ_eq rfl).symm
      clear hE
      go_wp2_with fail
      go_ret
      exact ⟨ret_i64 HV.out, by (with_reducible repeat (first | exact gro_refl _ | refine gro_alloc ?_ _ | refine gro_drew ?_ | refine gro_drewN ?_ _ | (refine gro_set ?_ ?_ _; (focus first | omega | (dsimp only; omega)))))⟩

theorem sizes_any (a b : Option Addr) (n c m e : Nat) (xs ys : List Nat) (w : World) {p1 p2 : Nat} (hx : RdD p1 w a n c xs) (hy : RdD p2 w b m e ys) (cx : Canon xs) (cy : Canon ys) (hn : n ≤ 4611686018427387904) (hm : m ≤ 4611686018427387904) :
    Calls Try.prog 99 #[.slice a n c, .slice b m e] w fun v w' => v = .returned (.int .i64 (cmpZ (val xs) (val ys))) ∧ Gro w w' := by
  obtain ⟨hxl, hxc, hx⟩ := hx
  obtain ⟨hyl, hyc, hy⟩ := hy
  rcases Nat.lt_trichotomy n m with h | h | h
  · have HV : Hid (-1 = cmpZ (val xs) (val ys)) := by
      have := lt_of_len cx cy (by omega)
      exact (cmpZ_lt (by omega)).symm
    have t0 : ((n : Int) != (m : Int)) = true := by simp; omega
    have t1 : (n : Int) < (m : Int) := by omega
    clear hx hy hxl hyl
    go_enter Try.func99, Try.ntmps99
    go_wp2_with fail
    go_ret
    exact ⟨ret_i64 HV.out, by (with_reducible repeat (first | exact gro_refl _ | refine gro_alloc ?_ _ | refine gro_drew ?_ | refine gro_drewN ?_ _ | (refine gro_set ?_ ?_ _; (focus first | omega | (dsimp only; omega)))))⟩
  · subst h
    rcases hx with rfl | ⟨g, o, _, rfl, hx⟩
    · rw [List.length_nil] at hxl
      subst hxl
      have : ys = [] := List.eq_nil_of_length_eq_zero hyl.symm
      subst this
      clear hyl hy hxc hyc cx cy hn hm
      go_enter Try.func99, Try.ntmps99
      go_wp2_with fail
      refine wp_loop_rounds 2 ?_
      rw [rounds_succ]
      go_wp2_with fail
      go_ret
      exact ⟨ret_i64 (cmpZ_eq rfl).symm, by (with_reducible repeat (first | exact gro_refl _ | refine gro_alloc ?_ _ | refine gro_drew ?_ | refine gro_drewN ?_ _ | (refine gro_set ?_ ?_ _; (focus first | omega | (dsimp only; omega)))))⟩
    · rcases hy with rfl | ⟨q, p, _, rfl, hy⟩
      · rw [List.length_nil] at hyl
        subst hyl
        have : xs = [] := List.eq_nil_of_length_eq_zero hxl.symm
        subst this
        clear hxl hx hxc hyc cx cy hn hm
        go_enter Try.func99, Try.ntmps99
        go_wp2_with fail
        refine wp_loop_rounds 2 ?_
        rw [rounds_succ]
        go_wp2_with fail
        go_ret
        exact ⟨ret_i64 (cmpZ_eq rfl).symm, by (with_reducible repeat (first | exact gro_refl _ | refine gro_alloc ?_ _ | refine gro_drew ?_ | refine gro_drewN ?_ _ | (refine gro_set ?_ ?_ _; (focus first | omega | (dsimp only; omega)))))⟩
      · exact sizes_loop g o q p n c e xs ys w hxl hyl cx cy hn hxc hyc hx hy
  · have HV : Hid (1 = cmpZ (val xs) (val ys)) := by
      have := lt_of_len cy cx (by omega)
      exact (cmpZ_gt (by omega)).symm
    have t0 : ((n : Int) != (m : Int)) = true := by simp; omega
    have t1 : ¬ (n : Int) < (m : Int) := by omega
    clear hx hy hxl hyl
    go_enter Try.func99, Try.ntmps99
    go_wp2_with fail
    go_ret
    exact ⟨ret_i64 HV.out, by (with_reducible repeat (first | exact gro_refl _ | refine gro_alloc ?_ _ | refine gro_drew ?_ | refine gro_drewN ?_ _ | (refine gro_set ?_ ?_ _; (focus first | omega | (dsimp only; omega)))))⟩
end Go.Proofs.Ytoenimkgagndnaa

/- Numbers of any size: lean. -/
namespace Go.Proofs.Ytoenimkgagndnaa
set_option linter.unusedVariables false
set_option linter.unusedSimpArgs false
open Go.RowKit Go.Lib Go.Dig

theorem zat_cut {base : Nat} {W : World} {s : Bool} {a : Option Addr} {n k c : Nat} {xs : List Nat} (hn : n = xs.length) (hk : k ≤ n) (ho : Ok xs) (h0 : ∀ j, k ≤ j → xs.getD j 0 = 0) (h1 : 0 < k → xs.getD (k - 1) 0 ≠ 0) (h : RdF base W (.slice a k c) (zi (xs.take k))) :
    Zat base W (s && decide (0 < k)) a k c (if s = true then -((val xs : Nat) : Int) else ((val xs : Nat) : Int)) := by
  have hv := val_cut (n := k) (by omega) h0
  have hc := canon_take (n := k) (by omega) ho h1
  have hl : (xs.take k).length = k := by rw [List.length_take]; omega
  refine ⟨?_, xs.take k, RdD.of hl.symm h, hc, ?_⟩
  · by_cases hk0 : 0 < k
    · have hp : 0 < val xs := by
        rw [← hv]
        have := val_ge hc (by omega)
        have : 0 < 10000 ^ ((xs.take k).length - 1) := Nat.pow_pos (by omega)
        omega
      rw [decide_eq_true hk0, Bool.and_true]
      cases s
      · exact (decide_eq_false (by simp)).symm
      · exact (decide_eq_true (by simp; omega)).symm
    · have : k = 0 := by omega
      subst this
      have : val xs = 0 := by rw [← hv]; rfl
      rw [this]
      cases s <;> rfl
  · rw [hv]
    cases s <;> simp

/-- What lean returns. -/
def LeanP (s : Bool) (xs : List Nat) (w : World) (v : Ending) (w' : World) : Prop :=
  ∃ s' a' n' c', v = .returned (.agg #[.bool s', .slice a' n' c']) ∧ Hid (Zat w.heap.size w' s' a' n' c' (if s = true then -((val xs : Nat) : Int) else ((val xs : Nat) : Int))) ∧ Below w.heap.size w w'

set_option maxHeartbeats 2000000 in
set_option maxRecDepth 100000 in
theorem lean_some (s : Bool) (g o n c : Nat) (xs : List Nat) (w : World) (hx : Hid (n = xs.length)) (ho : Hid (Ok xs)) (hn : n ≤ 1099511627776) (hc : n ≤ c) (n1 : 1 ≤ n)
    (HX : Hid (∀ i, i < n → w.cell? ⟨g, o + i, none⟩ = some (.int .i64 ((xs.getD i 0 : Nat) : Int)))) :
    Calls Try.prog 96 #[.agg #[.bool s, .slice (some ⟨g, o, none⟩) n c]] w (LeanP s xs w) := by
  obtain ⟨i0, hi, hz0, hz1, hz2'⟩ := info_parts (show (Try.prog.info? 3).map (fun i => (i.zero, i.size, i.bytes)) = some (some (.int .i64 0), 1, 8) by kernel_rfl)
  have hgw := World.block_lt_of_cell? _ _ (HX.out 0 (by omega))
  simp only at hgw
  go_enter Try.func96, Try.ntmps96
  go_wp2_with fail
  go_loop [3] (fun t => ∃ k : Nat, k ≤ n ∧ t = .int .i64 k ∧ Hid (∀ j, k ≤ j → xs.getD j 0 = 0)) (fun t => (intOf t).toNat)
  case atStart =>
    refine ⟨n, Nat.le_refl _, rfl, fun j hj => ?_⟩
    rw [List.getD_eq_getElem?_getD, List.getElem?_eq_none (by have := hx.out; omega)]
    rfl
  case round =>
    obtain ⟨k, hk, rfl, hE⟩ := hrel
    by_cases h0 : 0 < k
    · have c1 : w.cell? ⟨g, o + (k - 1), none⟩ = some (.int .i64 ((xs.getD (k - 1) 0 : Nat) : Int)) := HX.out (k - 1) (by omega)
      have k1 : (0 : Int) < (k : Int) := by omega
      have kn : (k : Int) ≤ (n : Int) := by omega
      by_cases hz : xs.getD (k - 1) 0 = 0
      · have hE2 : Hid (∀ j, k - 1 ≤ j → xs.getD j 0 = 0) := fun j hj => by
          rcases (show k ≤ j ∨ j = k - 1 by omega) with h | h
          · exact hE.out j h
          · rw [h]; exact hz
        rw [hz] at c1
        clear hz hE
        go_wp2_with fail
        go_round
        case rel => exact ⟨k - 1, by omega, by congr 1; omega, hE2⟩
        case measure => simp [intOf]; omega
      · have HZ : Hid (0 < k → xs.getD (k - 1) 0 ≠ 0) := fun _ => hz
        generalize xs.getD (k - 1) 0 = x at c1 hz
        have hz' : ((x : Int) == 0) = false := by simpa using hz
        have hkc : (k : Int) ≤ (c : Int) := by omega
        have hk0 : (0 : Int) ≤ (k : Int) := by omega
        have HA : Hid (∀ W, Below w.heap.size w W → (zi (xs.take k) = [] ∨ ∃ g' o', some (⟨g, o, none⟩ : Addr) = some ⟨g', o', none⟩ ∧ ∀ i, i < (zi (xs.take k)).length → W.cell? ⟨g', o' + i, none⟩ = some (.int .i64 ((zi (xs.take k)).getD i 0)))) := fun W hW => .inr ⟨g, o, rfl, fun i hi => by
          rw [zi_len, List.length_take] at hi
          rw [zi_get, kc_below hW (HX.out i (by omega))]
          simp [List.getElem?_take, show i < k by omega]⟩
        have HL := Lib.hid (show (zi (xs.take k)).length = k by rw [zi_len, List.length_take]; have := hx.out; omega)
        clear hz
        have HE := hE
        cases s
        · go_wp2_with (at_builtin; refine wpList_app0 rfl _ _ rfl _ rfl _ _ _ rfl (zi (xs.take k)) HL.out (HA.out _ (by (with_reducible repeat (first | exact Below.refl _ _ | refine bl_alloc ?_ _ | refine bl_drew ?_ | refine bl_drewN ?_ _ | (refine bl_set ?_ ?_ _; (focus dsimp only; omega)))))) (by omega) ?_; intro a2 c2 w2 HR hb2; have ⟨r0, r1, r2, r3⟩ : w2.cell? ⟨w.heap.size, 0, none⟩ = some (.bool false) ∧ w2.cell? ⟨w.heap.size, 1, none⟩ = some (.slice (some ⟨g, o, none⟩) n c) ∧ w2.cell? ⟨w.heap.size + 1, 0, none⟩ = some (.bool false) ∧ w2.cell? ⟨w.heap.size + 1, 1, none⟩ = some (.slice none 0 0) := (by and_intros <;> (with_reducible repeat (first | refine kc_drew ?_ | refine kc_drewN _ ?_ | refine kc_below hb2 ?_ | (refine kc_new ?_ ?_; (focus first | rfl | (simp only [World.size_alloc, World.size_setCell, World.size_drew, size_drewN]; done)); (focus first | rfl | (simp; done))) | (refine kc_set0 ?_ ?_; (focus first | rfl | (simp; done))) | exact ct_of (by assumption) | refine ct_drew ?_ | refine ct_drewN _ ?_ | refine ct_below hb2 ?_ | (refine ct_new ?_ ?_; (focus first | rfl | (simp only [World.size_alloc, World.size_setCell, World.size_drew, size_drewN]; done)); (focus first | rfl | (simp; done))) | refine ct_set _ _ ?_ | refine ct_alloc _ ?_ | (refine kc_set ?_ ?_; (focus first | (intro hx; injection hx; omega) | (simp; done))) | refine kc_alloc _ ?_))); have ⟨r4, r5, r6, r7⟩ : w2.frozen? ⟨w.heap.size, 0, none⟩ = false ∧ w2.frozen? ⟨w.heap.size, 1, none⟩ = false ∧ w2.frozen? ⟨w.heap.size + 1, 0, none⟩ = false ∧ w2.frozen? ⟨w.heap.size + 1, 1, none⟩ = false := (by and_intros <;> (with_reducible repeat (first | refine kf_drew ?_ | refine kf_drewN _ ?_ | (refine kf_new ?_ _; (focus first | rfl | (simp only [World.size_alloc, World.size_setCell, World.size_drew, size_drewN]; done))) | refine kf_set _ _ ?_ | (refine kf_below hb2 ?_ ?_; (focus simp only [World.size_alloc, World.size_setCell, World.size_drew, size_drewN]; omega)) | (refine kf_alloc _ ?_ ?_; (focus first | (simp only [World.size_alloc, World.size_setCell, World.size_drew, size_drewN]; omega) | (dsimp only; omega)))))); have hB2 : Below w.heap.size w w2 := (by (with_reducible repeat (first | exact Below.refl _ _ | refine bl_alloc ?_ _ | refine bl_drew ?_ | refine bl_drewN ?_ _ | (refine bl_set ?_ ?_ _; (focus dsimp only; omega)) | refine bl_call ?_ hb2))); have hz2 := hb2.size; (try simp only [World.size_alloc, World.size_drew, size_drewN] at hz2); have g2 : w.heap.size + 1 < w2.heap.size := (by omega); have g3 : w.heap.size < w2.heap.size := (by omega); have HR2 : Hid (RdF (w.heap.size + 2) w2 (.slice a2 k c2) (zi (xs.take k))) := (HR.out.mono (by (try simp only [World.size_alloc]); omega)); clear HR)
          exact bodyPost_ret (v := .agg #[.bool false, .slice a2 k c2]) (by simp [results, Try.results96, go_sem, r0, r1, r2, r3, g2, g3, Nat.ne_of_lt g2, Nat.ne_of_lt g3]) rfl
            ⟨false, a2, k, c2, rfl, by
              have hz := zat_cut (s := false) hx.out hk ho.out hE.out HZ.out (((((HR2.out.set (b := w.heap.size) (o := 1) (by omega) (.slice a2 k c2)).set (b := w.heap.size) (o := 0) (by omega) (.bool false)).set (b := w.heap.size + 1) (o := 0) (by omega) (.bool false)).set (b := w.heap.size + 1) (o := 1) (by omega) (.slice a2 k c2)).mono (by omega : w.heap.size ≤ w.heap.size + 2))
              rw [decide_eq_true h0] at hz
              exact hz, bl_set (by simp only; omega) (bl_set (by simp only; omega) (bl_set (by simp only; omega) (bl_set (by simp only; omega) hB2 _) _) _) _⟩
        · go_wp2_with (at_builtin; refine wpList_app0 rfl _ _ rfl _ rfl _ _ _ rfl (zi (xs.take k)) HL.out (HA.out _ (by (with_reducible repeat (first | exact Below.refl _ _ | refine bl_alloc ?_ _ | refine bl_drew ?_ | refine bl_drewN ?_ _ | (refine bl_set ?_ ?_ _; (focus dsimp only; omega)))))) (by omega) ?_; intro a2 c2 w2 HR hb2; have ⟨r0, r1, r2, r3⟩ : w2.cell? ⟨w.heap.size, 0, none⟩ = some (.bool true) ∧ w2.cell? ⟨w.heap.size, 1, none⟩ = some (.slice (some ⟨g, o, none⟩) n c) ∧ w2.cell? ⟨w.heap.size + 1, 0, none⟩ = some (.bool false) ∧ w2.cell? ⟨w.heap.size + 1, 1, none⟩ = some (.slice none 0 0) := (by and_intros <;> (with_reducible repeat (first | refine kc_drew ?_ | refine kc_drewN _ ?_ | refine kc_below hb2 ?_ | (refine kc_new ?_ ?_; (focus first | rfl | (simp only [World.size_alloc, World.size_setCell, World.size_drew, size_drewN]; done)); (focus first | rfl | (simp; done))) | (refine kc_set0 ?_ ?_; (focus first | rfl | (simp; done))) | exact ct_of (by assumption) | refine ct_drew ?_ | refine ct_drewN _ ?_ | refine ct_below hb2 ?_ | (refine ct_new ?_ ?_; (focus first | rfl | (simp only [World.size_alloc, World.size_setCell, World.size_drew, size_drewN]; done)); (focus first | rfl | (simp; done))) | refine ct_set _ _ ?_ | refine ct_alloc _ ?_ | (refine kc_set ?_ ?_; (focus first | (intro hx; injection hx; omega) | (simp; done))) | refine kc_alloc _ ?_))); have ⟨r4, r5, r6, r7⟩ : w2.frozen? ⟨w.heap.size, 0, none⟩ = false ∧ w2.frozen? ⟨w.heap.size, 1, none⟩ = false ∧ w2.frozen? ⟨w.heap.size + 1, 0, none⟩ = false ∧ w2.frozen? ⟨w.heap.size + 1, 1, none⟩ = false := (by and_intros <;> (with_reducible repeat (first | refine kf_drew ?_ | refine kf_drewN _ ?_ | (refine kf_new ?_ _; (focus first | rfl | (simp only [World.size_alloc, World.size_setCell, World.size_drew, size_drewN]; done))) | refine kf_set _ _ ?_ | (refine kf_below hb2 ?_ ?_; (focus simp only [World.size_alloc, World.size_setCell, World.size_drew, size_drewN]; omega)) | (refine kf_alloc _ ?_ ?_; (focus first | (simp only [World.size_alloc, World.size_setCell, World.size_drew, size_drewN]; omega) | (dsimp only; omega)))))); have hB2 : Below w.heap.size w w2 := (by (with_reducible repeat (first | exact Below.refl _ _ | refine bl_alloc ?_ _ | refine bl_drew ?_ | refine bl_drewN ?_ _ | (refine bl_set ?_ ?_ _; (focus dsimp only; omega)) | refine bl_call ?_ hb2))); have hz2 := hb2.size; (try simp only [World.size_alloc, World.size_drew, size_drewN] at hz2); have g2 : w.heap.size + 1 < w2.heap.size := (by omega); have g3 : w.heap.size < w2.heap.size := (by omega); have HR2 : Hid (RdF (w.heap.size + 2) w2 (.slice a2 k c2) (zi (xs.take k))) := (HR.out.mono (by (try simp only [World.size_alloc]); omega)); clear HR)
          exact bodyPost_ret (v := .agg #[.bool true, .slice a2 k c2]) (by simp [results, Try.results96, go_sem, r0, r1, r2, r3, g2, g3, Nat.ne_of_lt g2, Nat.ne_of_lt g3]) rfl
            ⟨true, a2, k, c2, rfl, by
              have hz := zat_cut (s := true) hx.out hk ho.out hE.out HZ.out (((((HR2.out.set (b := w.heap.size) (o := 1) (by omega) (.slice a2 k c2)).set (b := w.heap.size) (o := 0) (by omega) (.bool true)).set (b := w.heap.size + 1) (o := 0) (by omega) (.bool true)).set (b := w.heap.size + 1) (o := 1) (by omega) (.slice a2 k c2)).mono (by omega : w.heap.size ≤ w.heap.size + 2))
              rw [decide_eq_true h0] at hz
              exact hz, bl_set (by simp only; omega) (bl_set (by simp only; omega) (bl_set (by simp only; omega) (bl_set (by simp only; omega) hB2 _) _) _) _⟩
    · obtain rfl : k = 0 := by omega
      have HA : Hid (∀ W, Below w.heap.size w W → (zi (xs.take 0) = [] ∨ ∃ g' o', some (⟨g, o, none⟩ : Addr) = some ⟨g', o', none⟩ ∧ ∀ i, i < (zi (xs.take 0)).length → W.cell? ⟨g', o' + i, none⟩ = some (.int .i64 ((zi (xs.take 0)).getD i 0)))) := fun W hW => .inl rfl
      have HL := Lib.hid (show (zi (xs.take 0)).length = 0 from rfl)
      cases s
      · go_wp2_with (at_builtin; refine wpList_app0 rfl _ _ rfl _ rfl _ _ _ rfl (zi (xs.take 0)) HL.out (HA.out _ (by (with_reducible repeat (first | exact Below.refl _ _ | refine bl_alloc ?_ _ | refine bl_drew ?_ | refine bl_drewN ?_ _ | (refine bl_set ?_ ?_ _; (focus dsimp only; omega)))))) (by omega) ?_; intro a2 c2 w2 HR hb2; have ⟨r0, r1, r2, r3⟩ : w2.cell? ⟨w.heap.size, 0, none⟩ = some (.bool false) ∧ w2.cell? ⟨w.heap.size, 1, none⟩ = some (.slice (some ⟨g, o, none⟩) n c) ∧ w2.cell? ⟨w.heap.size + 1, 0, none⟩ = some (.bool false) ∧ w2.cell? ⟨w.heap.size + 1, 1, none⟩ = some (.slice none 0 0) := (by and_intros <;> (with_reducible repeat (first | refine kc_drew ?_ | refine kc_drewN _ ?_ | refine kc_below hb2 ?_ | (refine kc_new ?_ ?_; (focus first | rfl | (simp only [World.size_alloc, World.size_setCell, World.size_drew, size_drewN]; done)); (focus first | rfl | (simp; done))) | (refine kc_set0 ?_ ?_; (focus first | rfl | (simp; done))) | exact ct_of (by assumption) | refine ct_drew ?_ | refine ct_drewN _ ?_ | refine ct_below hb2 ?_ | (refine ct_new ?_ ?_; (focus first | rfl | (simp only [World.size_alloc, World.size_setCell, World.size_drew, size_drewN]; done)); (focus first | rfl | (simp; done))) | refine ct_set _ _ ?_ | refine ct_alloc _ ?_ | (refine kc_set ?_ ?_; (focus first | (intro hx; injection hx; omega) | (simp; done))) | refine kc_alloc _ ?_))); have ⟨r4, r5, r6, r7⟩ : w2.frozen? ⟨w.heap.size, 0, none⟩ = false ∧ w2.frozen? ⟨w.heap.size, 1, none⟩ = false ∧ w2.frozen? ⟨w.heap.size + 1, 0, none⟩ = false ∧ w2.frozen? ⟨w.heap.size + 1, 1, none⟩ = false := (by and_intros <;> (with_reducible repeat (first | refine kf_drew ?_ | refine kf_drewN _ ?_ | (refine kf_new ?_ _; (focus first | rfl | (simp only [World.size_alloc, World.size_setCell, World.size_drew, size_drewN]; done))) | refine kf_set _ _ ?_ | (refine kf_below hb2 ?_ ?_; (focus simp only [World.size_alloc, World.size_setCell, World.size_drew, size_drewN]; omega)) | (refine kf_alloc _ ?_ ?_; (focus first | (simp only [World.size_alloc, World.size_setCell, World.size_drew, size_drewN]; omega) | (dsimp only; omega)))))); have hB2 : Below w.heap.size w w2 := (by (with_reducible repeat (first | exact Below.refl _ _ | refine bl_alloc ?_ _ | refine bl_drew ?_ | refine bl_drewN ?_ _ | (refine bl_set ?_ ?_ _; (focus dsimp only; omega)) | refine bl_call ?_ hb2))); have hz2 := hb2.size; (try simp only [World.size_alloc, World.size_drew, size_drewN] at hz2); have g2 : w.heap.size + 1 < w2.heap.size := (by omega); have g3 : w.heap.size < w2.heap.size := (by omega); have HR2 : Hid (RdF (w.heap.size + 2) w2 (.slice a2 0 c2) (zi (xs.take 0))) := (HR.out.mono (by (try simp only [World.size_alloc]); omega)); clear HR)
        exact bodyPost_ret (v := .agg #[.bool false, .slice a2 0 c2]) (by simp [results, Try.results96, go_sem, r0, r1, r2, r3, g2, g3, Nat.ne_of_lt g2, Nat.ne_of_lt g3]) rfl
            ⟨false, a2, 0, c2, rfl, by
              have hz := zat_cut (s := false) hx.out (Nat.zero_le _) ho.out hE.out (fun h => absurd h (by decide)) (((((HR2.out.set (b := w.heap.size) (o := 1) (by omega) (.slice a2 0 c2)).set (b := w.heap.size) (o := 0) (by omega) (.bool false)).set (b := w.heap.size + 1) (o := 0) (by omega) (.bool false)).set (b := w.heap.size + 1) (o := 1) (by omega) (.slice a2 0 c2)).mono (by omega : w.heap.size ≤ w.heap.size + 2))
              rw [show (false && decide (0 < 0)) = false from by decide] at hz
              exact hz, bl_set (by simp only; omega) (bl_set (by simp only; omega) (bl_set (by simp only; omega) (bl_set (by simp only; omega) hB2 _) _) _) _⟩
      · go_wp2_with (at_builtin; refine wpList_app0 rfl _ _ rfl _ rfl _ _ _ rfl (zi (xs.take 0)) HL.out (HA.out _ (by (with_reducible repeat (first | exact Below.refl _ _ | refine bl_alloc ?_ _ | refine bl_drew ?_ | refine bl_drewN ?_ _ | (refine bl_set ?_ ?_ _; (focus dsimp only; omega)))))) (by omega) ?_; intro a2 c2 w2 HR hb2; have ⟨r0, r1, r2, r3⟩ : w2.cell? ⟨w.heap.size, 0, none⟩ = some (.bool true) ∧ w2.cell? ⟨w.heap.size, 1, none⟩ = some (.slice (some ⟨g, o, none⟩) n c) ∧ w2.cell? ⟨w.heap.size + 1, 0, none⟩ = some (.bool false) ∧ w2.cell? ⟨w.heap.size + 1, 1, none⟩ = some (.slice none 0 0) := (by and_intros <;> (with_reducible repeat (first | refine kc_drew ?_ | refine kc_drewN _ ?_ | refine kc_below hb2 ?_ | (refine kc_new ?_ ?_; (focus first | rfl | (simp only [World.size_alloc, World.size_setCell, World.size_drew, size_drewN]; done)); (focus first | rfl | (simp; done))) | (refine kc_set0 ?_ ?_; (focus first | rfl | (simp; done))) | exact ct_of (by assumption) | refine ct_drew ?_ | refine ct_drewN _ ?_ | refine ct_below hb2 ?_ | (refine ct_new ?_ ?_; (focus first | rfl | (simp only [World.size_alloc, World.size_setCell, World.size_drew, size_drewN]; done)); (focus first | rfl | (simp; done))) | refine ct_set _ _ ?_ | refine ct_alloc _ ?_ | (refine kc_set ?_ ?_; (focus first | (intro hx; injection hx; omega) | (simp; done))) | refine kc_alloc _ ?_))); have ⟨r4, r5, r6, r7⟩ : w2.frozen? ⟨w.heap.size, 0, none⟩ = false ∧ w2.frozen? ⟨w.heap.size, 1, none⟩ = false ∧ w2.frozen? ⟨w.heap.size + 1, 0, none⟩ = false ∧ w2.frozen? ⟨w.heap.size + 1, 1, none⟩ = false := (by and_intros <;> (with_reducible repeat (first | refine kf_drew ?_ | refine kf_drewN _ ?_ | (refine kf_new ?_ _; (focus first | rfl | (simp only [World.size_alloc, World.size_setCell, World.size_drew, size_drewN]; done))) | refine kf_set _ _ ?_ | (refine kf_below hb2 ?_ ?_; (focus simp only [World.size_alloc, World.size_setCell, World.size_drew, size_drewN]; omega)) | (refine kf_alloc _ ?_ ?_; (focus first | (simp only [World.size_alloc, World.size_setCell, World.size_drew, size_drewN]; omega) | (dsimp only; omega)))))); have hB2 : Below w.heap.size w w2 := (by (with_reducible repeat (first | exact Below.refl _ _ | refine bl_alloc ?_ _ | refine bl_drew ?_ | refine bl_drewN ?_ _ | (refine bl_set ?_ ?_ _; (focus dsimp only; omega)) | refine bl_call ?_ hb2))); have hz2 := hb2.size; (try simp only [World.size_alloc, World.size_drew, size_drewN] at hz2); have g2 : w.heap.size + 1 < w2.heap.size := (by omega); have g3 : w.heap.size < w2.heap.size := (by omega); have HR2 : Hid (RdF (w.heap.size + 2) w2 (.slice a2 0 c2) (zi (xs.take 0))) := (HR.out.mono (by (try simp only [World.size_alloc]); omega)); clear HR)
        exact bodyPost_ret (v := .agg #[.bool false, .slice a2 0 c2]) (by simp [results, Try.results96, go_sem, r0, r1, r2, r3, g2, g3, Nat.ne_of_lt g2, Nat.ne_of_lt g3]) rfl
            ⟨false, a2, 0, c2, rfl, by
              have hz := zat_cut (s := true) hx.out (Nat.zero_le _) ho.out hE.out (fun h => absurd h (by decide)) (((((HR2.out.set (b := w.heap.size) (o := 1) (by omega) (.slice a2 0 c2)).set (b := w.heap.size) (o := 0) (by omega) (.bool false)).set (b := w.heap.size + 1) (o := 0) (by omega) (.bool false)).set (b := w.heap.size + 1) (o := 1) (by omega) (.slice a2 0 c2)).mono (by omega : w.heap.size ≤ w.heap.size + 2))
              rw [show (true && decide (0 < 0)) = false from by decide] at hz
              exact hz, bl_set (by simp only; omega) (bl_set (by simp only; omega) (bl_set (by simp only; omega) (bl_set (by simp only; omega) hB2 _) _) _) _⟩
end Go.Proofs.Ytoenimkgagndnaa

/- Numbers of any size: lean, at any digits. -/
namespace Go.Proofs.Ytoenimkgagndnaa
set_option linter.unusedVariables false
set_option linter.unusedSimpArgs false
open Go.RowKit Go.Lib Go.Dig

theorem zat_zero (base : Nat) (W : World) (a : Option Addr) (c : Nat) (s : Bool) : Hid (Zat base W false a 0 c (if s = true then -((val [] : Nat) : Int) else ((val [] : Nat) : Int))) := by
  have : (if s = true then -((val [] : Nat) : Int) else ((val [] : Nat) : Int)) = 0 := by cases s <;> rfl
  rw [this]
  exact ⟨rfl, [], RdD.nil base W a c, canon_nil, rfl⟩

set_option maxHeartbeats 2000000 in
set_option maxRecDepth 100000 in
theorem lean_none (s : Bool) (a : Option Addr) (c : Nat) (w : World) : Calls Try.prog 96 #[.agg #[.bool s, .slice a 0 c]] w (LeanP s [] w) := by
  obtain ⟨i0, hi, hz0, hz1, hz2'⟩ := info_parts (show (Try.prog.info? 3).map (fun i => (i.zero, i.size, i.bytes)) = some (some (.int .i64 0), 1, 8) by kernel_rfl)
  have hc0 : (0 : Int) ≤ (c : Int) := by omega
  obtain ⟨s0, hs0⟩ : ∃ s0, s0 = s := ⟨_, rfl⟩
  have HS := Lib.hid hs0
  clear hs0
  cases s
  · obtain rfl := HS.out
    go_enter Try.func96, Try.ntmps96
    go_wp2_with fail
    refine wp_loop_rounds 2 ?_
    rw [rounds_succ]
    go_wp2_with (at_builtin; refine wpList_app0 rfl _ _ rfl _ rfl _ _ _ rfl [] rfl (.inl rfl) (by omega) ?_; intro a2 c2 w2 HR hb2; have ⟨r0, r1, r2, r3⟩ : w2.cell? ⟨w.heap.size, 0, none⟩ = some (.bool false) ∧ w2.cell? ⟨w.heap.size, 1, none⟩ = some (.slice a 0 c) ∧ w2.cell? ⟨w.heap.size + 1, 0, none⟩ = some (.bool false) ∧ w2.cell? ⟨w.heap.size + 1, 1, none⟩ = some (.slice none 0 0) := (by and_intros <;> (with_reducible repeat (first | refine kc_drew ?_ | refine kc_drewN _ ?_ | refine kc_below hb2 ?_ | (refine kc_new ?_ ?_; (focus first | rfl | (simp only [World.size_alloc, World.size_setCell, World.size_drew, size_drewN]; done)); (focus first | rfl | (simp; done))) | (refine kc_set0 ?_ ?_; (focus first | rfl | (simp; done))) | exact ct_of (by assumption) | refine ct_drew ?_ | refine ct_drewN _ ?_ | refine ct_below hb2 ?_ | (refine ct_new ?_ ?_; (focus first | rfl | (simp only [World.size_alloc, World.size_setCell, World.size_drew, size_drewN]; done)); (focus first | rfl | (simp; done))) | refine ct_set _ _ ?_ | refine ct_alloc _ ?_ | (refine kc_set ?_ ?_; (focus first | (intro hx; injection hx; omega) | (simp; done))) | refine kc_alloc _ ?_))); have ⟨r4, r5, r6, r7⟩ : w2.frozen? ⟨w.heap.size, 0, none⟩ = false ∧ w2.frozen? ⟨w.heap.size, 1, none⟩ = false ∧ w2.frozen? ⟨w.heap.size + 1, 0, none⟩ = false ∧ w2.frozen? ⟨w.heap.size + 1, 1, none⟩ = false := (by and_intros <;> (with_reducible repeat (first | refine kf_drew ?_ | refine kf_drewN _ ?_ | (refine kf_new ?_ _; (focus first | rfl | (simp only [World.size_alloc, World.size_setCell, World.size_drew, size_drewN]; done))) | refine kf_set _ _ ?_ | (refine kf_below hb2 ?_ ?_; (focus simp only [World.size_alloc, World.size_setCell, World.size_drew, size_drewN]; omega)) | (refine kf_alloc _ ?_ ?_; (focus first | (simp only [World.size_alloc, World.size_setCell, World.size_drew, size_drewN]; omega) | (dsimp only; omega)))))); have hB2 : Below w.heap.size w w2 := (by (with_reducible repeat (first | exact Below.refl _ _ | refine bl_alloc ?_ _ | refine bl_drew ?_ | refine bl_drewN ?_ _ | (refine bl_set ?_ ?_ _; (focus dsimp only; omega)) | refine bl_call ?_ hb2))); have hz2 := hb2.size; (try simp only [World.size_alloc, World.size_drew, size_drewN] at hz2); have g2 : w.heap.size + 1 < w2.heap.size := (by omega); have g3 : w.heap.size < w2.heap.size := (by omega))
    exact bodyPost_ret (v := .agg #[.bool false, .slice a2 0 c2]) (by simp [results, Try.results96, go_sem, r0, r1, r2, r3, g2, g3, Nat.ne_of_lt g2, Nat.ne_of_lt g3]) rfl
      ⟨false, a2, 0, c2, rfl, zat_zero _ _ _ _ false, bl_set (by simp only; omega) (bl_set (by simp only; omega) (bl_set (by simp only; omega) (bl_set (by simp only; omega) hB2 _) _) _) _⟩
  · go_enter Try.func96, Try.ntmps96
    go_wp2_with fail
    refine wp_loop_rounds 2 ?_
    rw [rounds_succ]
    go_wp2_with (at_builtin; refine wpList_app0 rfl _ _ rfl _ rfl _ _ _ rfl [] rfl (.inl rfl) (by omega) ?_; intro a2 c2 w2 HR hb2; have ⟨r0, r1, r2, r3⟩ : w2.cell? ⟨w.heap.size, 0, none⟩ = some (.bool true) ∧ w2.cell? ⟨w.heap.size, 1, none⟩ = some (.slice a 0 c) ∧ w2.cell? ⟨w.heap.size + 1, 0, none⟩ = some (.bool false) ∧ w2.cell? ⟨w.heap.size + 1, 1, none⟩ = some (.slice none 0 0) := (by and_intros <;> (with_reducible repeat (first | refine kc_drew ?_ | refine kc_drewN _ ?_ | refine kc_below hb2 ?_ | (refine kc_new ?_ ?_; (focus first | rfl | (simp only [World.size_alloc, World.size_setCell, World.size_drew, size_drewN]; done)); (focus first | rfl | (simp; done))) | (refine kc_set0 ?_ ?_; (focus first | rfl | (simp; done))) | exact ct_of (by assumption) | refine ct_drew ?_ | refine ct_drewN _ ?_ | refine ct_below hb2 ?_ | (refine ct_new ?_ ?_; (focus first | rfl | (simp only [World.size_alloc, World.size_setCell, World.size_drew, size_drewN]; done)); (focus first | rfl | (simp; done))) | refine ct_set _ _ ?_ | refine ct_alloc _ ?_ | (refine kc_set ?_ ?_; (focus first | (intro hx; injection hx; omega) | (simp; done))) | refine kc_alloc _ ?_))); have ⟨r4, r5, r6, r7⟩ : w2.frozen? ⟨w.heap.size, 0, none⟩ = false ∧ w2.frozen? ⟨w.heap.size, 1, none⟩ = false ∧ w2.frozen? ⟨w.heap.size + 1, 0, none⟩ = false ∧ w2.frozen? ⟨w.heap.size + 1, 1, none⟩ = false := (by and_intros <;> (with_reducible repeat (first | refine kf_drew ?_ | refine kf_drewN _ ?_ | (refine kf_new ?_ _; (focus first | rfl | (simp only [World.size_alloc, World.size_setCell, World.size_drew, size_drewN]; done))) | refine kf_set _ _ ?_ | (refine kf_below hb2 ?_ ?_; (focus simp only [World.size_alloc, World.size_setCell, World.size_drew, size_drewN]; omega)) | (refine kf_alloc _ ?_ ?_; (focus first | (simp only [World.size_alloc, World.size_setCell, World.size_drew, size_drewN]; omega) | (dsimp only; omega)))))); have hB2 : Below w.heap.size w w2 := (by (with_reducible repeat (first | exact Below.refl _ _ | refine bl_alloc ?_ _ | refine bl_drew ?_ | refine bl_drewN ?_ _ | (refine bl_set ?_ ?_ _; (focus dsimp only; omega)) | refine bl_call ?_ hb2))); have hz2 := hb2.size; (try simp only [World.size_alloc, World.size_drew, size_drewN] at hz2); have g2 : w.heap.size + 1 < w2.heap.size := (by omega); have g3 : w.heap.size < w2.heap.size := (by omega))
    exact bodyPost_ret (v := .agg #[.bool false, .slice a2 0 c2]) (by simp [results, Try.results96, go_sem, r0, r1, r2, r3, g2, g3, Nat.ne_of_lt g2, Nat.ne_of_lt g3]) rfl
      ⟨false, a2, 0, c2, rfl, zat_zero _ _ _ _ true, bl_set (by simp only; omega) (bl_set (by simp only; omega) (bl_set (by simp only; omega) (bl_set (by simp only; omega) hB2 _) _) _) _⟩

theorem lean_any (s : Bool) (a : Option Addr) (n c : Nat) (xs : List Nat) (w : World) {p1 : Nat} (hx : RdD p1 w a n c xs) (ho : Ok xs) (hn : n ≤ 1099511627776) :
    Calls Try.prog 96 #[.agg #[.bool s, .slice a n c]] w (LeanP s xs w) := by
  obtain ⟨h1, h2, h3⟩ := hx
  rcases h3 with rfl | ⟨g, o, _, rfl, h3⟩
  · rw [List.length_nil] at h1
    subst h1
    exact lean_none s a c w
  · by_cases h0 : n = 0
    · subst h0
      have : xs = [] := List.eq_nil_of_length_eq_zero h1.symm
      subst this
      exact lean_none s _ c w
    · exact lean_some s g o n c xs w h1 ho hn h2 (by omega) h3
end Go.Proofs.Ytoenimkgagndnaa

/- append of one digit to a slice of the call's own. -/
namespace Go.Proofs.Ytoenimkgagndnaa
set_option linter.unusedVariables false
set_option linter.unusedSimpArgs false
open Go.RowKit Go.Lib Go.Dig

theorem own_block {W : World} {base n c : Nat} {a : Option Addr} {xs : List Value} (h : W.ownsRow base 3 1 (.slice a n c) n xs) : ∀ k, Value.ownBlock (.slice a n c) = some k → base ≤ k := by
  intro k hk
  rcases h.2 with ⟨h1, _⟩ | ⟨g, cap, cur, h1, h2, _⟩
  · simp only [Value.slice.injEq] at h1
    obtain ⟨rfl, _⟩ := h1
    simp [Value.ownBlock] at hk
  · simp only [Value.slice.injEq] at h1
    obtain ⟨rfl, _⟩ := h1
    simp [Value.ownBlock] at hk
    omega

theorem wpList_app1 {w : World} {ops : Array Oper} {rest : List Oper} {o : Oper} {a : Act} {Q : Exit → Act → World → Prop} (hgd : o.guard = none) (s x : Operand)
    (hop : o.op = Op.call { callee := Callee.builtin Builtin.append, args := #[s, x], argTypes := #[35, 35] }) (ao : Option Addr) (n c : Nat) (hs : a.eval s = .slice ao n c)
    (base : Nat) (ds : List Nat) (hown : w.ownsRow base 3 1 (.slice ao n c) n ((zi ds).map (Value.int .i64))) (b d : Nat) (hx : a.eval x = .slice (some ⟨b, 0, none⟩) 1 1) (hd : w.cell? ⟨b, 0, none⟩ = some (.int .i64 (d : Int)))
    (hb : base ≤ w.heap.size) (hn : n ≤ 1099511627775)
    (hK : ∀ a' c' w', Hid (w'.ownsRow base 3 1 (.slice a' (n + 1) c') (n + 1) ((zi (ds ++ [d])).map (Value.int .i64))) → Below base w w' → wpList Try.prog ops Q rest (a.put o.dst (.slice a' (n + 1) c')) w') :
    wpList Try.prog ops Q (o :: rest) a w := by
  obtain ⟨i0, hi, hz0, hz1, hz2⟩ := info_parts (show (Try.prog.info? 3).map (fun i => (i.zero, i.size, i.bytes)) = some (some (.int .i64 0), 1, 8) by kernel_rfl)
  refine wpList_append_own _ hgd s x 35 hop base 3 i0 _ 1 8 Try.underlying35 hi hz0 hz1 hz2 rfl (by decide) _ n _ hs hown ⟨b, 0, none⟩ 1 1 [.int .i64 (d : Int)] hx rfl ?_ (by simp [Value.oneCell']) (by unfold maxLen; omega) (by omega) hb ?_
  · intro j u hj
    cases j with
    | zero =>
      simp at hj
      rw [← hj]
      exact hd
    | succ j => simp at hj
  · intro v' w' h1 h2 _
    obtain ⟨a', c', rfl⟩ := own_slice h1
    have e : (zi ds).map (Value.int .i64) ++ [.int .i64 (d : Int)] = (zi (ds ++ [d])).map (Value.int .i64) := by rw [zi_snoc, List.map_append]; rfl
    rw [e] at h1
    exact hK a' c' w' h1 ((Below.refl _ _).grown h2 hb (fun k hk => own_block hown k hk))

theorem own_nil (W : World) (base : Nat) : W.ownsRow base 3 1 (.slice none 0 0) 0 ((zi []).map (Value.int .i64)) := ⟨rfl, .inl ⟨rfl, rfl⟩⟩
theorem own_empty {W : World} {base b : Nat} (hb : W.heap.size = b) (hB : base ≤ b) : (W.alloc (.cells #[] 3)).ownsRow base 3 1 (.slice (some ⟨b, 0, none⟩) 0 0) 0 ((zi []).map (Value.int .i64)) := by
  subst hb
  exact ⟨rfl, .inr ⟨_, 0, #[], rfl, hB, heap_alloc_new W _, Nat.le_refl _, Nat.zero_le _, rfl, rfl⟩⟩
theorem own_rd {W : World} {base n c : Nat} {a : Option Addr} {ds : List Nat} (h : W.ownsRow base 3 1 (.slice a n c) n ((zi ds).map (Value.int .i64))) : RdD base W a n c ds := by
  have hl := h.1
  rw [List.length_map, zi_len, Nat.mul_one] at hl
  exact RdD.of hl.symm (rdF_own (by rw [zi_len, hl]) h)
end Go.Proofs.Ytoenimkgagndnaa

/- Numbers of any size: Int. -/
namespace Go.Proofs.Ytoenimkgagndnaa
set_option linter.unusedVariables false
set_option linter.unusedSimpArgs false
open Go.RowKit Go.Lib Go.Dig

theorem kc_low {W w1 : World} {base : Nat} {a : Addr} {v : Value} (hb : Below base W w1) (hl : a.block < base) (h : W.cell? a = some v) : w1.cell? a = some v := (hb.cell hl).trans h
theorem kf_low {W w1 : World} {base : Nat} {a : Addr} {b : Bool} (hb : Below base W w1) (hl : a.block < base) (h : W.frozen? a = b) : w1.frozen? a = b := (hb.frozen hl).trans h

theorem tq_facts (v : Int) : (v.tdiv 10000).natAbs = v.natAbs / 10000 ∧ (v.tmod 10000).natAbs = v.natAbs % 10000 ∧ (0 ≤ v → 0 ≤ v.tdiv 10000 ∧ 0 ≤ v.tmod 10000) ∧ (v ≤ 0 → v.tdiv 10000 ≤ 0 ∧ v.tmod 10000 ≤ 0) := by
  refine ⟨by rw [Int.natAbs_tdiv]; rfl, by rw [Int.natAbs_tmod]; rfl, ?_, ?_⟩
  · intro h
    rw [Int.tdiv_eq_ediv_of_nonneg h, Int.tmod_eq_emod_of_nonneg h]
    omega
  · intro h
    obtain ⟨u, rfl⟩ : ∃ u, v = -u := ⟨-v, by omega⟩
    rw [Int.neg_tdiv, Int.neg_tmod, Int.tdiv_eq_ediv_of_nonneg (by omega), Int.tmod_eq_emod_of_nonneg (by omega)]
    omega

/-- What holds at the head of a round of Int. -/
structure IntR (w : World) (s : Bool) (v u : Int) (ds : List Nat) (a : Option Addr) (n c : Nat) (W : World) : Prop where
  b0 : W.cell? ⟨w.heap.size + 1, 0, none⟩ = some (.bool s)
  b1 : W.cell? ⟨w.heap.size + 1, 1, none⟩ = some (.slice a n c)
  f1 : W.frozen? ⟨w.heap.size + 1, 1, none⟩ = false
  z0 : W.cell? ⟨w.heap.size, 0, none⟩ = some (.bool false)
  z1 : W.cell? ⟨w.heap.size, 1, none⟩ = some (.slice none 0 0)
  y0 : W.frozen? ⟨w.heap.size, 0, none⟩ = false
  y1 : W.frozen? ⟨w.heap.size, 1, none⟩ = false
  own : W.ownsRow (w.heap.size + 2) 3 1 (.slice a n c) n ((zi ds).map (Value.int .i64))
  below : Below w.heap.size w W
  size : w.heap.size + 2 ≤ W.heap.size
  len : n = ds.length
  ok : Ok ds
  eq : val ds + 10000 ^ n * u.natAbs = v.natAbs
  lo : -9223372036854775808 ≤ u
  hi : u ≤ 9223372036854775807
  pos : 0 ≤ v → 0 ≤ u
  neg : v ≤ 0 → u ≤ 0
  canon : u = 0 → Canon ds

set_option maxHeartbeats 2000000 in
set_option maxRecDepth 100000 in
theorem intZ_any (v : Int) (w : World) (hlo : -9223372036854775808 ≤ v) (hhi : v ≤ 9223372036854775807) :
    Calls Try.prog 57 #[.int .i64 v] w fun e w' => ∃ s a n c, e = .returned (.agg #[.bool s, .slice a n c]) ∧ Hid (Zat w.heap.size w' s a n c v) ∧ Below w.heap.size w w' := by
  obtain ⟨s, hs⟩ : ∃ s, decide (v < 0) = s := ⟨_, rfl⟩
  go_enter Try.func57, Try.ntmps57
  go_wp2_with fail
  have HS := Lib.hid hs
  clear hs
  go_loopw [0] (fun t wr => ∃ (u : Int) (ds : List Nat) (a : Option Addr) (n c : Nat), t = .int .i64 u ∧ Hid (IntR w s v u ds a n c wr)) (fun t _ => (intOf t).natAbs)
  case atStart =>
    refine ⟨v, [], none, 0, 0, rfl, ⟨?_, ?_, ?_, ?_, ?_, ?_, ?_, own_nil _ _, ?_, by simp, rfl, Ok.nil, by simp [val], hlo, hhi, id, id, fun _ => canon_nil⟩⟩
    · (with_reducible repeat (first | refine kc_drew ?_ | refine kc_drewN _ ?_ | (refine kc_new ?_ ?_; (focus first | rfl | (simp only [World.size_alloc, World.size_setCell, World.size_drew, size_drewN]; done)); (focus first | rfl | (simp; done))) | (refine kc_set0 ?_ ?_; (focus first | rfl | (simp; done))) | exact ct_of (by assumption) | refine ct_drew ?_ | refine ct_drewN _ ?_ | (refine ct_new ?_ ?_; (focus first | rfl | (simp only [World.size_alloc, World.size_setCell, World.size_drew, size_drewN]; done)); (focus first | rfl | (simp; done))) | refine ct_set _ _ ?_ | refine ct_alloc _ ?_ | (refine kc_set ?_ ?_; (focus first | (intro hx; injection hx; omega) | (simp; done))) | refine kc_alloc _ ?_))
    · (with_reducible repeat (first | refine kc_drew ?_ | refine kc_drewN _ ?_ | (refine kc_new ?_ ?_; (focus first | rfl | (simp only [World.size_alloc, World.size_setCell, World.size_drew, size_drewN]; done)); (focus first | rfl | (simp; done))) | (refine kc_set0 ?_ ?_; (focus first | rfl | (simp; done))) | exact ct_of (by assumption) | refine ct_drew ?_ | refine ct_drewN _ ?_ | (refine ct_new ?_ ?_; (focus first | rfl | (simp only [World.size_alloc, World.size_setCell, World.size_drew, size_drewN]; done)); (focus first | rfl | (simp; done))) | refine ct_set _ _ ?_ | refine ct_alloc _ ?_ | (refine kc_set ?_ ?_; (focus first | (intro hx; injection hx; omega) | (simp; done))) | refine kc_alloc _ ?_))
    · (with_reducible repeat (first | refine kf_drew ?_ | refine kf_drewN _ ?_ | (refine kf_new ?_ _; (focus first | rfl | (simp only [World.size_alloc, World.size_setCell, World.size_drew, size_drewN]; done))) | refine kf_set _ _ ?_ | (refine kf_alloc _ ?_ ?_; (focus first | (simp only [World.size_alloc, World.size_setCell, World.size_drew, size_drewN]; omega) | (dsimp only; omega)))))
    · (with_reducible repeat (first | refine kc_drew ?_ | refine kc_drewN _ ?_ | (refine kc_new ?_ ?_; (focus first | rfl | (simp only [World.size_alloc, World.size_setCell, World.size_drew, size_drewN]; done)); (focus first | rfl | (simp; done))) | (refine kc_set0 ?_ ?_; (focus first | rfl | (simp; done))) | exact ct_of (by assumption) | refine ct_drew ?_ | refine ct_drewN _ ?_ | (refine ct_new ?_ ?_; (focus first | rfl | (simp only [World.size_alloc, World.size_setCell, World.size_drew, size_drewN]; done)); (focus first | rfl | (simp; done))) | refine ct_set _ _ ?_ | refine ct_alloc _ ?_ | (refine kc_set ?_ ?_; (focus first | (intro hx; injection hx; omega) | (simp; done))) | refine kc_alloc _ ?_))
    · (with_reducible repeat (first | refine kc_drew ?_ | refine kc_drewN _ ?_ | (refine kc_new ?_ ?_; (focus first | rfl | (simp only [World.size_alloc, World.size_setCell, World.size_drew, size_drewN]; done)); (focus first | rfl | (simp; done))) | (refine kc_set0 ?_ ?_; (focus first | rfl | (simp; done))) | exact ct_of (by assumption) | refine ct_drew ?_ | refine ct_drewN _ ?_ | (refine ct_new ?_ ?_; (focus first | rfl | (simp only [World.size_alloc, World.size_setCell, World.size_drew, size_drewN]; done)); (focus first | rfl | (simp; done))) | refine ct_set _ _ ?_ | refine ct_alloc _ ?_ | (refine kc_set ?_ ?_; (focus first | (intro hx; injection hx; omega) | (simp; done))) | refine kc_alloc _ ?_))
    · (with_reducible repeat (first | refine kf_drew ?_ | refine kf_drewN _ ?_ | (refine kf_new ?_ _; (focus first | rfl | (simp only [World.size_alloc, World.size_setCell, World.size_drew, size_drewN]; done))) | refine kf_set _ _ ?_ | (refine kf_alloc _ ?_ ?_; (focus first | (simp only [World.size_alloc, World.size_setCell, World.size_drew, size_drewN]; omega) | (dsimp only; omega)))))
    · (with_reducible repeat (first | refine kf_drew ?_ | refine kf_drewN _ ?_ | (refine kf_new ?_ _; (focus first | rfl | (simp only [World.size_alloc, World.size_setCell, World.size_drew, size_drewN]; done))) | refine kf_set _ _ ?_ | (refine kf_alloc _ ?_ ?_; (focus first | (simp only [World.size_alloc, World.size_setCell, World.size_drew, size_drewN]; omega) | (dsimp only; omega)))))
    · (with_reducible repeat (first | exact Below.refl _ _ | refine bl_alloc ?_ _ | refine bl_drew ?_ | refine bl_drewN ?_ _ | (refine bl_set ?_ ?_ _; (focus dsimp only; omega))))
  case round =>
    obtain ⟨u, ds, a, n, c, rfl, hI⟩ := hrel
    have r0 := hI.out.b0
    have r1 := hI.out.b1
    have r2 := hI.out.f1
    have r3 := hI.out.z0
    have r4 := hI.out.z1
    have r5 := hI.out.y0
    have r6 := hI.out.y1
    have ulo := hI.out.lo
    have uhi := hI.out.hi
    have hsz := hI.out.size
    have g0 : w.heap.size < wr.heap.size := by omega
    have g1 : w.heap.size + 1 < wr.heap.size := by omega
    by_cases h0 : u = 0
    · subst h0
      have hZ : Hid (Zat w.heap.size ((wr.setCell ⟨w.heap.size, 0, none⟩ (.bool s)).setCell ⟨w.heap.size, 1, none⟩ (.slice a n c)) s a n c v) := by
        have e := hI.out.eq
        rw [show (0 : Int).natAbs = 0 from rfl, Nat.mul_zero, Nat.add_zero] at e
        exact ⟨HS.out.symm, ds, (own_rd (ownsRow_setCell_below (ownsRow_setCell_below hI.out.own (by simp only; omega) _) (by simp only; omega) _)).mono (by omega), hI.out.canon rfl, e⟩
      have hB := hI.out.below
      clear hI HS
      go_wp2_with fail
      exact bodyPost_ret (v := .agg #[.bool s, .slice a n c]) (by simp [results, Try.results57, go_sem, r3, r4, g0, Nat.ne_of_lt g0]) rfl ⟨s, a, n, c, rfl, hZ, bl_set (by simp only; omega) (bl_set (by simp only; omega) hB _) _⟩
    · obtain ⟨q1, q2, q3, q4⟩ := tq_facts u
      have un0 : u.natAbs ≠ 0 := by omega
      have hn5 : n < 5 := by
        have e := hI.out.eq
        rcases Nat.lt_or_ge n 5 with h | h
        · exact h
        · exfalso
          have h1 : 10000 ^ 5 ≤ 10000 ^ n := Nat.pow_le_pow_right (by omega) h
          have h2 : 10000 ^ n * 1 ≤ 10000 ^ n * u.natAbs := Nat.mul_le_mul_left _ (by omega)
          have h3 : v.natAbs ≤ 9223372036854775808 := by omega
          omega
      -- the next round's head
      have hN : ∀ (d : Nat) (a2 : Option Addr) (c2 : Nat) (w2 : World), d = u.natAbs % 10000 → w2.ownsRow (w.heap.size + 2) 3 1 (.slice a2 (n + 1) c2) (n + 1) ((zi (ds ++ [d])).map (Value.int .i64)) → Below (w.heap.size + 2) wr w2 →
          IntR w s v (u.tdiv 10000) (ds ++ [d]) a2 (n + 1) c2 (w2.setCell ⟨w.heap.size + 1, 1, none⟩ (.slice a2 (n + 1) c2)) := by
        intro d a2 c2 w2 hd ho hb
        have hd' : d < 10000 := by omega
        have ct : there w2 ⟨w.heap.size + 1, 1, none⟩ := ⟨_, kc_low hb (by simp only; omega) r1⟩
        refine ⟨kc_set (by intro hx; injection hx; omega) (kc_low hb (by simp only; omega) r0), kc_set0 rfl ct, kf_set _ _ (kf_low hb (by simp only; omega) r2), kc_set (by intro hx; injection hx; omega) (kc_low hb (by simp only; omega) r3), kc_set (by intro hx; injection hx; omega) (kc_low hb (by simp only; omega) r4),
          kf_set _ _ (kf_low hb (by simp only; omega) r5), kf_set _ _ (kf_low hb (by simp only; omega) r6), ownsRow_setCell_below ho (by simp only; omega) _, bl_set (by simp only; omega) (hI.out.below.trans (hb.mono (by omega))) _, by simp; have := hb.size; omega, by simp [hI.out.len], hI.out.ok.append (Ok.one hd'), ?_, by omega, by omega, fun h => (q3 (hI.out.pos h)).1, fun h => (q4 (hI.out.neg h)).1, ?_⟩
        · have e := hI.out.eq
          have l := hI.out.len
          rw [val_snoc, ← l, q1, hd, Nat.pow_succ]
          have := Nat.div_add_mod u.natAbs 10000
          generalize u.natAbs / 10000 = qq at *
          generalize u.natAbs % 10000 = rr at *
          generalize 10000 ^ n = P at *
          rw [← e, ← this]
          grind
        · intro hz
          rw [hz] at q1
          refine ⟨hI.out.ok.append (Ok.one hd'), fun _ => ?_⟩
          have : (ds ++ [d]).getD ((ds ++ [d]).length - 1) 0 = d := by simp
          rw [this]
          have h1 : (0 : Int).natAbs = 0 := rfl
          omega
      have HN := Lib.hid hN
      have OWN := Lib.hid hI.out.own
      have hu0 : (u == 0) = false := by simpa using h0
      have hu1 : (u != 0) = true := by simpa using h0
      have QM := Lib.hid q1
      obtain ⟨d, hd⟩ : ∃ d, d = u.natAbs % 10000 := ⟨_, rfl⟩
      have HD := Lib.hid hd
      have hd9 : d ≤ 9999 := by omega
      by_cases ht : u.tmod 10000 < 0
      · have e1 : u.tmod 10000 = -(d : Int) := by omega
        have d1 : 1 ≤ d := by omega
        clear hN q1 q2 q3 q4 hd ht h0 hI
        go_wp2_with (at_builtin; refine wpList_app1 rfl _ _ rfl a n c rfl (w.heap.size + 2) ds (OWN.out.alloc _) wr.heap.size d rfl (by (with_reducible repeat (first | refine kc_drew ?_ | refine kc_drewN _ ?_ | (refine kc_new ?_ ?_; (focus first | rfl | (simp only [World.size_alloc, World.size_setCell, World.size_drew, size_drewN]; done)); (focus first | rfl | (simp; done))) | (refine kc_set0 ?_ ?_; (focus first | rfl | (simp; done))) | exact ct_of (by assumption) | refine ct_drew ?_ | refine ct_drewN _ ?_ | (refine ct_new ?_ ?_; (focus first | rfl | (simp only [World.size_alloc, World.size_setCell, World.size_drew, size_drewN]; done)); (focus first | rfl | (simp; done))) | refine ct_set _ _ ?_ | refine ct_alloc _ ?_ | (refine kc_set ?_ ?_; (focus first | (intro hx; injection hx; omega) | (simp; done))) | refine kc_alloc _ ?_))) (by simp; omega) (by omega) ?_; intro a2 c2 w2 HO hb2; have k0 := kc_low hb2 (by simp only; omega) (kc_alloc _ r0); have k1 := kc_low hb2 (by simp only; omega) (kc_alloc _ r1); have k2 := kf_low hb2 (by simp only; omega) (kf_alloc _ (by simp only; omega) r2); have hb3 : Below (w.heap.size + 2) wr w2 := (((Below.refl _ _).alloc (by omega) _).trans hb2); have g2 : w.heap.size + 1 < w2.heap.size := (by have := hb3.size; omega))
        refine ⟨⟨_, ds ++ [d], a2, n + 1, c2, rfl, HN.out d a2 c2 w2 HD.out HO.out hb3⟩, ?_⟩
        have hq := QM.out
        simp only [intOf]
        omega
      · have e1 : u.tmod 10000 = (d : Int) := by omega
        clear hN q1 q2 q3 q4 hd ht h0 hI
        go_wp2_with (at_builtin; refine wpList_app1 rfl _ _ rfl a n c rfl (w.heap.size + 2) ds (OWN.out.alloc _) wr.heap.size d rfl (by (with_reducible repeat (first | refine kc_drew ?_ | refine kc_drewN _ ?_ | (refine kc_new ?_ ?_; (focus first | rfl | (simp only [World.size_alloc, World.size_setCell, World.size_drew, size_drewN]; done)); (focus first | rfl | (simp; done))) | (refine kc_set0 ?_ ?_; (focus first | rfl | (simp; done))) | exact ct_of (by assumption) | refine ct_drew ?_ | refine ct_drewN _ ?_ | (refine ct_new ?_ ?_; (focus first | rfl | (simp only [World.size_alloc, World.size_setCell, World.size_drew, size_drewN]; done)); (focus first | rfl | (simp; done))) | refine ct_set _ _ ?_ | refine ct_alloc _ ?_ | (refine kc_set ?_ ?_; (focus first | (intro hx; injection hx; omega) | (simp; done))) | refine kc_alloc _ ?_))) (by simp; omega) (by omega) ?_; intro a2 c2 w2 HO hb2; have k0 := kc_low hb2 (by simp only; omega) (kc_alloc _ r0); have k1 := kc_low hb2 (by simp only; omega) (kc_alloc _ r1); have k2 := kf_low hb2 (by simp only; omega) (kf_alloc _ (by simp only; omega) r2); have hb3 : Below (w.heap.size + 2) wr w2 := (((Below.refl _ _).alloc (by omega) _).trans hb2); have g2 : w.heap.size + 1 < w2.heap.size := (by have := hb3.size; omega))
        refine ⟨⟨_, ds ++ [d], a2, n + 1, c2, rfl, HN.out d a2 c2 w2 HD.out HO.out hb3⟩, ?_⟩
        have hq := QM.out
        simp only [intOf]
        omega
end Go.Proofs.Ytoenimkgagndnaa

/- Numbers of any size: plus (without signs). -/
namespace Go.Proofs.Ytoenimkgagndnaa
set_option linter.unusedVariables false
set_option linter.unusedSimpArgs false
open Go.RowKit Go.Lib Go.Dig

/-- What holds at the head of a round of plus. -/
structure PlusR (w : World) (xs ys : List Nat) (i cy : Nat) (ds : List Nat) (a : Option Addr) (c : Nat) (W : World) : Prop where
  own : W.ownsRow w.heap.size 3 1 (.slice a i c) i ((zi ds).map (Value.int .i64))
  below : Below w.heap.size w W
  ok : Ok ds
  len : i = ds.length
  cy1 : cy ≤ 1
  eq : val ds + cy * 10000 ^ i = val (xs.take i) + val (ys.take i)
  fin : i ≤ max xs.length ys.length ∨ (i = max xs.length ys.length + 1 ∧ cy = 0)

theorem plus_next {w W w2 : World} {xs ys : List Nat} {i cy : Nat} {ds : List Nat} {a a2 : Option Addr} {c c2 : Nat} (h : PlusR w xs ys i cy ds a c W) (hx : Ok xs) (hy : Ok ys) (hgo : i < max xs.length ys.length ∨ cy = 1) {s d q : Nat} (hs : s = cy + xs.getD i 0 + ys.getD i 0) (hd : d = s % 10000) (hq : q = s / 10000)
    (ho : w2.ownsRow w.heap.size 3 1 (.slice a2 (i + 1) c2) (i + 1) ((zi (ds ++ [d])).map (Value.int .i64))) (hb : Below w.heap.size W w2) : PlusR w xs ys (i + 1) q (ds ++ [d]) a2 c2 w2 := by
  have hx9 := hx.getD i
  have hy9 := hy.getD i
  have c1 := h.cy1
  refine ⟨ho, h.below.trans hb, h.ok.append (Ok.one (by omega)), by simp [h.len], by omega, ?_, ?_⟩
  · rw [val_snoc, ← h.len, val_take_succ, val_take_succ, Nat.pow_succ]
    have := plus_step (10000 ^ i) s (val (xs.take i)) (val (ys.take i)) (val ds) cy (xs.getD i 0) (ys.getD i 0) h.eq hs
    rw [hd, hq]
    generalize 10000 ^ i = P at *
    generalize xs.getD i 0 = x at *
    generalize ys.getD i 0 = y at *
    omega
  · rcases h.fin with h1 | ⟨h1, h2⟩
    · by_cases hm : i < max xs.length ys.length
      · exact .inl (by omega)
      · refine .inr ⟨by omega, ?_⟩
        have e1 : xs.getD i 0 = 0 := by
          rw [List.getD_eq_getElem?_getD, List.getElem?_eq_none (by omega)]; rfl
        have e2 : ys.getD i 0 = 0 := by
          rw [List.getD_eq_getElem?_getD, List.getElem?_eq_none (by omega)]; rfl
        omega
    · rcases hgo with h3 | h3
      · omega
      · omega

/-- What plus returns: digits of the sum. -/
def PlusP (w : World) (k v : Nat) (e : Ending) (w' : World) : Prop :=
  ∃ a n c zs, e = .returned (.slice a n c) ∧ Hid (RdD w.heap.size w' a n c zs ∧ Ok zs ∧ val zs = v ∧ n ≤ k) ∧ Below w.heap.size w w'

set_option maxHeartbeats 4000000 in
set_option maxRecDepth 100000 in
theorem plus_any (A B : Option Addr) (n c' m e' : Nat) (xs ys : List Nat) (w : World) {p1 p2 : Nat} (hx : RdD p1 w A n c' xs) (hy : RdD p2 w B m e' ys) (ox : Ok xs) (oy : Ok ys) (hn : n ≤ 1000000) (hm : m ≤ 1000000) :
    Calls Try.prog 126 #[.slice A n c', .slice B m e'] w (PlusP w (max n m + 1) (val xs + val ys)) := by
  obtain ⟨hxl, hxc, hx⟩ := hx
  obtain ⟨hyl, hyc, hy⟩ := hy
  have HXL := Lib.hid hxl
  have HYL := Lib.hid hyl
  have HX := Lib.hid hx
  have HY := Lib.hid hy
  have OX := Lib.hid ox
  have OY := Lib.hid oy
  clear hxl hyl hx hy ox oy
  go_enter Try.func126, Try.ntmps126
  go_wp2_with fail
  go_loopw [5, 6, 7] (fun r s t wr => ∃ (i cy : Nat) (ds : List Nat) (a : Option Addr) (c : Nat), r = .slice a i c ∧ s = .int .i64 cy ∧ t = .int .i64 i ∧ Hid (PlusR w xs ys i cy ds a c wr)) (fun _ _ t _ => max n m + 1 - (intOf t).toNat)
  case atStart =>
    refine ⟨0, 0, [], some ⟨w.heap.size, 0, none⟩, 0, rfl, rfl, rfl, ⟨own_empty rfl (Nat.le_refl _), ?_, Ok.nil, rfl, by omega, by simp [val], .inl (Nat.zero_le _)⟩⟩
    (with_reducible repeat (first | exact Below.refl _ _ | refine bl_alloc ?_ _ | refine bl_drew ?_ | refine bl_drewN ?_ _ | (refine bl_set ?_ ?_ _; (focus dsimp only; omega))))
  case round =>
    obtain ⟨i, cy, ds, a, c, rfl, rfl, rfl, hI⟩ := hrel
    have OWN := Lib.hid hI.out.own
    have hsz := hI.out.below.size
    have cy1 := hI.out.cy1
    have fin := hI.out.fin
    rw [← HXL.out, ← HYL.out] at fin
    have hi : i ≤ 1000001 := by omega
    have i0 : (0 : Int) ≤ (i : Int) := by omega
    by_cases h1 : i < n
    · have hgo : i < max xs.length ys.length ∨ cy = 1 := .inl (by rw [← HXL.out]; omega)
      have h1' : (i : Int) < (n : Int) := by omega
      rcases HX.out with h | ⟨g, o, _, rfl, hX⟩
      · exfalso
        have := HXL.out
        rw [h] at this
        simp at this
        omega
      · have c1 := kc_below hI.out.below (hX i h1)
        by_cases h2 : i < m
        · have h2' : (i : Int) < (m : Int) := by omega
          rcases HY.out with h | ⟨g2, o2, _, rfl, hY⟩
          · exfalso
            have := HYL.out
            rw [h] at this
            simp at this
            omega
          · have c2' := kc_below hI.out.below (hY i h2)
            have hse : cy + xs.getD i 0 + ys.getD i 0 = cy + xs.getD i 0 + ys.getD i 0 := rfl
            obtain ⟨s0, hs0⟩ : ∃ s0, s0 = cy + xs.getD i 0 + ys.getD i 0 := ⟨_, rfl⟩
            obtain ⟨d, hd⟩ : ∃ d, d = s0 % 10000 := ⟨_, rfl⟩
            obtain ⟨q, hq⟩ : ∃ q, q = s0 / 10000 := ⟨_, rfl⟩
            have HN := fun a2 c2 w2 ho hb => Lib.hid (plus_next (a2 := a2) (c2 := c2) (w2 := w2) hI.out OX.out OY.out hgo (hs0.trans hse) hd hq ho hb)
            have b1 : s0 ≤ 19999 := by have := OX.out.getD i; have := OY.out.getD i; omega
            have z1 : (s0 : Int) % 10000 = (d : Int) := by omega
            have z2 : (s0 : Int) / 10000 = (q : Int) := by omega
            have z0 : (cy : Int) + ((xs.getD i 0 : Nat) : Int) + ((ys.getD i 0 : Nat) : Int) = (s0 : Int) := by omega
            generalize xs.getD i 0 = x at c1 z0
            generalize ys.getD i 0 = y at c2' z0
            clear hs0 hd hq hse hgo fin hI
            go_wp2_with (at_builtin; refine wpList_app1 rfl _ _ rfl a i c rfl w.heap.size ds (OWN.out.alloc _) wr.heap.size d rfl (by (with_reducible repeat (first | refine kc_drew ?_ | refine kc_drewN _ ?_ | (refine kc_new ?_ ?_; (focus first | rfl | (simp only [World.size_alloc, World.size_setCell, World.size_drew, size_drewN]; done)); (focus first | rfl | (simp; done))) | (refine kc_set0 ?_ ?_; (focus first | rfl | (simp; done))) | exact ct_of (by assumption) | refine ct_drew ?_ | refine ct_drewN _ ?_ | (refine ct_new ?_ ?_; (focus first | rfl | (simp only [World.size_alloc, World.size_setCell, World.size_drew, size_drewN]; done)); (focus first | rfl | (simp; done))) | refine ct_set _ _ ?_ | refine ct_alloc _ ?_ | (refine kc_set ?_ ?_; (focus first | (intro hx; injection hx; omega) | (simp; done))) | refine kc_alloc _ ?_))) (by simp; omega) (by omega) ?_; intro a2 c2 w2 HO hb2; have hb3 : Below w.heap.size wr w2 := (((Below.refl _ _).alloc (by omega) _).trans hb2))
            refine ⟨⟨i + 1, q, ds ++ [d], a2, c2, rfl, rfl, by go_num, (HN a2 c2 w2 HO.out hb3).out⟩, by simp [intOf]; omega⟩
        · have hse : cy + xs.getD i 0 = cy + xs.getD i 0 + ys.getD i 0 := by
            have : ys.getD i 0 = 0 := by
              rw [List.getD_eq_getElem?_getD, List.getElem?_eq_none (by have := HYL.out; omega)]; rfl
            omega
          obtain ⟨s0, hs0⟩ : ∃ s0, s0 = cy + xs.getD i 0 := ⟨_, rfl⟩
          obtain ⟨d, hd⟩ : ∃ d, d = s0 % 10000 := ⟨_, rfl⟩
          obtain ⟨q, hq⟩ : ∃ q, q = s0 / 10000 := ⟨_, rfl⟩
          have HN := fun a2 c2 w2 ho hb => Lib.hid (plus_next (a2 := a2) (c2 := c2) (w2 := w2) hI.out OX.out OY.out hgo (hs0.trans hse) hd hq ho hb)
          have b1 : s0 ≤ 19999 := by have := OX.out.getD i; have := OY.out.getD i; omega
          have z1 : (s0 : Int) % 10000 = (d : Int) := by omega
          have z2 : (s0 : Int) / 10000 = (q : Int) := by omega
          have z0 : (cy : Int) + ((xs.getD i 0 : Nat) : Int) = (s0 : Int) := by omega
          generalize xs.getD i 0 = x at c1 z0
          clear hs0 hd hq hse hgo fin hI
          go_wp2_with (at_builtin; refine wpList_app1 rfl _ _ rfl a i c rfl w.heap.size ds (OWN.out.alloc _) wr.heap.size d rfl (by (with_reducible repeat (first | refine kc_drew ?_ | refine kc_drewN _ ?_ | (refine kc_new ?_ ?_; (focus first | rfl | (simp only [World.size_alloc, World.size_setCell, World.size_drew, size_drewN]; done)); (focus first | rfl | (simp; done))) | (refine kc_set0 ?_ ?_; (focus first | rfl | (simp; done))) | exact ct_of (by assumption) | refine ct_drew ?_ | refine ct_drewN _ ?_ | (refine ct_new ?_ ?_; (focus first | rfl | (simp only [World.size_alloc, World.size_setCell, World.size_drew, size_drewN]; done)); (focus first | rfl | (simp; done))) | refine ct_set _ _ ?_ | refine ct_alloc _ ?_ | (refine kc_set ?_ ?_; (focus first | (intro hx; injection hx; omega) | (simp; done))) | refine kc_alloc _ ?_))) (by simp; omega) (by omega) ?_; intro a2 c2 w2 HO hb2; have hb3 : Below w.heap.size wr w2 := (((Below.refl _ _).alloc (by omega) _).trans hb2))
          refine ⟨⟨i + 1, q, ds ++ [d], a2, c2, rfl, rfl, by go_num, (HN a2 c2 w2 HO.out hb3).out⟩, by simp [intOf]; omega⟩
    · have e1 : xs.getD i 0 = 0 := by
        rw [List.getD_eq_getElem?_getD, List.getElem?_eq_none (by have := HXL.out; omega)]; rfl
      by_cases h2 : i < m
      · have hgo : i < max xs.length ys.length ∨ cy = 1 := .inl (by rw [← HYL.out]; omega)
        have h2' : (i : Int) < (m : Int) := by omega
        rcases HY.out with h | ⟨g2, o2, _, rfl, hY⟩
        · exfalso
          have := HYL.out
          rw [h] at this
          simp at this
          omega
        · have c2' := kc_below hI.out.below (hY i h2)
          have hse : cy + ys.getD i 0 = cy + xs.getD i 0 + ys.getD i 0 := by omega
          obtain ⟨s0, hs0⟩ : ∃ s0, s0 = cy + ys.getD i 0 := ⟨_, rfl⟩
          obtain ⟨d, hd⟩ : ∃ d, d = s0 % 10000 := ⟨_, rfl⟩
          obtain ⟨q, hq⟩ : ∃ q, q = s0 / 10000 := ⟨_, rfl⟩
          have HN := fun a2 c2 w2 ho hb => Lib.hid (plus_next (a2 := a2) (c2 := c2) (w2 := w2) hI.out OX.out OY.out hgo (hs0.trans hse) hd hq ho hb)
          have b1 : s0 ≤ 19999 := by have := OX.out.getD i; have := OY.out.getD i; omega
          have z1 : (s0 : Int) % 10000 = (d : Int) := by omega
          have z2 : (s0 : Int) / 10000 = (q : Int) := by omega
          have z0 : (cy : Int) + ((ys.getD i 0 : Nat) : Int) = (s0 : Int) := by omega
          clear e1
          generalize ys.getD i 0 = y at c2' z0
          clear hs0 hd hq hse hgo fin hI
          go_wp2_with (at_builtin; refine wpList_app1 rfl _ _ rfl a i c rfl w.heap.size ds (OWN.out.alloc _) wr.heap.size d rfl (by (with_reducible repeat (first | refine kc_drew ?_ | refine kc_drewN _ ?_ | (refine kc_new ?_ ?_; (focus first | rfl | (simp only [World.size_alloc, World.size_setCell, World.size_drew, size_drewN]; done)); (focus first | rfl | (simp; done))) | (refine kc_set0 ?_ ?_; (focus first | rfl | (simp; done))) | exact ct_of (by assumption) | refine ct_drew ?_ | refine ct_drewN _ ?_ | (refine ct_new ?_ ?_; (focus first | rfl | (simp only [World.size_alloc, World.size_setCell, World.size_drew, size_drewN]; done)); (focus first | rfl | (simp; done))) | refine ct_set _ _ ?_ | refine ct_alloc _ ?_ | (refine kc_set ?_ ?_; (focus first | (intro hx; injection hx; omega) | (simp; done))) | refine kc_alloc _ ?_))) (by simp; omega) (by omega) ?_; intro a2 c2 w2 HO hb2; have hb3 : Below w.heap.size wr w2 := (((Below.refl _ _).alloc (by omega) _).trans hb2))
          refine ⟨⟨i + 1, q, ds ++ [d], a2, c2, rfl, rfl, by go_num, (HN a2 c2 w2 HO.out hb3).out⟩, by simp [intOf]; omega⟩
      · have e2 : ys.getD i 0 = 0 := by
          rw [List.getD_eq_getElem?_getD, List.getElem?_eq_none (by have := HYL.out; omega)]; rfl
        by_cases h3 : cy = 1
        · have hgo : i < max xs.length ys.length ∨ cy = 1 := .inr h3
          have hse : cy = cy + xs.getD i 0 + ys.getD i 0 := by omega
          have h3' : (0 : Int) < (cy : Int) := by omega
          have fi : i ≤ max n m := by omega
          obtain ⟨s0, hs0⟩ : ∃ s0, s0 = cy := ⟨_, rfl⟩
          obtain ⟨d, hd⟩ : ∃ d, d = s0 % 10000 := ⟨_, rfl⟩
          obtain ⟨q, hq⟩ : ∃ q, q = s0 / 10000 := ⟨_, rfl⟩
          have HN := fun a2 c2 w2 ho hb => Lib.hid (plus_next (a2 := a2) (c2 := c2) (w2 := w2) hI.out OX.out OY.out hgo (hs0.trans hse) hd hq ho hb)
          have b1 : s0 ≤ 19999 := by have := OX.out.getD i; have := OY.out.getD i; omega
          have z1 : (s0 : Int) % 10000 = (d : Int) := by omega
          have z2 : (s0 : Int) / 10000 = (q : Int) := by omega
          have z0 : (cy : Int) = (s0 : Int) := by omega
          clear e1 e2 h3
          clear hs0 hd hq hse hgo fin hI
          go_wp2_with (at_builtin; refine wpList_app1 rfl _ _ rfl a i c rfl w.heap.size ds (OWN.out.alloc _) wr.heap.size d rfl (by (with_reducible repeat (first | refine kc_drew ?_ | refine kc_drewN _ ?_ | (refine kc_new ?_ ?_; (focus first | rfl | (simp only [World.size_alloc, World.size_setCell, World.size_drew, size_drewN]; done)); (focus first | rfl | (simp; done))) | (refine kc_set0 ?_ ?_; (focus first | rfl | (simp; done))) | exact ct_of (by assumption) | refine ct_drew ?_ | refine ct_drewN _ ?_ | (refine ct_new ?_ ?_; (focus first | rfl | (simp only [World.size_alloc, World.size_setCell, World.size_drew, size_drewN]; done)); (focus first | rfl | (simp; done))) | refine ct_set _ _ ?_ | refine ct_alloc _ ?_ | (refine kc_set ?_ ?_; (focus first | (intro hx; injection hx; omega) | (simp; done))) | refine kc_alloc _ ?_))) (by simp; omega) (by omega) ?_; intro a2 c2 w2 HO hb2; have hb3 : Below w.heap.size wr w2 := (((Below.refl _ _).alloc (by omega) _).trans hb2))
          refine ⟨⟨i + 1, q, ds ++ [d], a2, c2, rfl, rfl, by go_num, (HN a2 c2 w2 HO.out hb3).out⟩, by simp [intOf]; omega⟩
        · obtain rfl : cy = 0 := by omega
          have hV : Hid (RdD w.heap.size wr a i c ds ∧ Ok ds ∧ val ds = val xs + val ys ∧ i ≤ max n m + 1) := by
            have e := hI.out.eq
            rw [Nat.zero_mul, Nat.add_zero, List.take_of_length_le (by have := HXL.out; omega), List.take_of_length_le (by have := HYL.out; omega)] at e
            exact ⟨own_rd hI.out.own, hI.out.ok, e, by omega⟩
          have hB := hI.out.below
          clear hI e1 e2 fin
          go_wp2_with fail
          go_ret
          exact ⟨a, i, c, ds, rfl, hV, hB⟩
end Go.Proofs.Ytoenimkgagndnaa

/- Numbers of any size: less (without signs). -/
namespace Go.Proofs.Ytoenimkgagndnaa
set_option linter.unusedVariables false
set_option linter.unusedSimpArgs false
open Go.RowKit Go.Lib Go.Dig

/-- What holds at the head of a round of less. -/
structure LessR (w : World) (xs ys : List Nat) (i bo : Nat) (ds : List Nat) (a : Option Addr) (c : Nat) (W : World) : Prop where
  own : W.ownsRow w.heap.size 3 1 (.slice a i c) i ((zi ds).map (Value.int .i64))
  below : Below w.heap.size w W
  ok : Ok ds
  len : i = ds.length
  bo1 : bo ≤ 1
  eq : val ds + val (ys.take i) = val (xs.take i) + bo * 10000 ^ i
  fin : i ≤ xs.length

theorem less_next {w W w2 : World} {xs ys : List Nat} {i bo : Nat} {ds : List Nat} {a a2 : Option Addr} {c c2 : Nat} (h : LessR w xs ys i bo ds a c W) (hx : Ok xs) (hy : Ok ys) (hi : i < xs.length) {d q : Nat}
    (hd : (d + bo + ys.getD i 0 = xs.getD i 0 ∧ q = 0) ∨ (d + bo + ys.getD i 0 = xs.getD i 0 + 10000 ∧ q = 1 ∧ xs.getD i 0 < bo + ys.getD i 0))
    (ho : w2.ownsRow w.heap.size 3 1 (.slice a2 (i + 1) c2) (i + 1) ((zi (ds ++ [d])).map (Value.int .i64))) (hb : Below w.heap.size W w2) : LessR w xs ys (i + 1) q (ds ++ [d]) a2 c2 w2 := by
  have hx9 := hx.getD i
  have hy9 := hy.getD i
  have b1 := h.bo1
  refine ⟨ho, h.below.trans hb, h.ok.append (Ok.one (by omega)), by simp [h.len], by omega, ?_, by omega⟩
  rw [val_snoc, ← h.len, val_take_succ, val_take_succ, Nat.pow_succ]
  have e := h.eq
  rcases hd with ⟨h1, rfl⟩ | ⟨h1, rfl, h2⟩
  · have := less_step0 (10000 ^ i) (val (xs.take i)) (val (ys.take i)) (val ds) bo (xs.getD i 0) (ys.getD i 0) e (by omega)
    rw [show xs.getD i 0 - bo - ys.getD i 0 = d by omega] at this
    generalize 10000 ^ i = P at *
    generalize xs.getD i 0 = x at *
    generalize ys.getD i 0 = y at *
    omega
  · have := less_step1 (10000 ^ i) (val (xs.take i)) (val (ys.take i)) (val ds) bo (xs.getD i 0) (ys.getD i 0) e h2 (by omega)
    rw [show xs.getD i 0 + 10000 - bo - ys.getD i 0 = d by omega] at this
    generalize 10000 ^ i = P at *
    generalize xs.getD i 0 = x at *
    generalize ys.getD i 0 = y at *
    omega

set_option maxHeartbeats 4000000 in
set_option maxRecDepth 100000 in
theorem less_any (A B : Option Addr) (n c' m e' : Nat) (xs ys : List Nat) (w : World) {p1 p2 : Nat} (hx : RdD p1 w A n c' xs) (hy : RdD p2 w B m e' ys) (ox : Ok xs) (oy : Ok ys) (hn : n ≤ 1000000) (hmn : m ≤ n) (hv : val ys ≤ val xs) :
    Calls Try.prog 113 #[.slice A n c', .slice B m e'] w (PlusP w n (val xs - val ys)) := by
  obtain ⟨hxl, hxc, hx⟩ := hx
  obtain ⟨hyl, hyc, hy⟩ := hy
  have HXL := Lib.hid hxl
  have HYL := Lib.hid hyl
  have HX := Lib.hid hx
  have HY := Lib.hid hy
  have OX := Lib.hid ox
  have OY := Lib.hid oy
  have HV := Lib.hid hv
  clear hxl hyl hx hy ox oy hv
  go_enter Try.func113, Try.ntmps113
  go_wp2_with fail
  go_loopw [5, 6, 7] (fun r s t wr => ∃ (i bo : Nat) (ds : List Nat) (a : Option Addr) (c : Nat), r = .slice a i c ∧ s = .int .i64 bo ∧ t = .int .i64 i ∧ Hid (LessR w xs ys i bo ds a c wr)) (fun _ _ t _ => n - (intOf t).toNat)
  case atStart =>
    refine ⟨0, 0, [], some ⟨w.heap.size, 0, none⟩, 0, rfl, rfl, rfl, ⟨own_empty rfl (Nat.le_refl _), ?_, Ok.nil, rfl, by omega, by simp [val], Nat.zero_le _⟩⟩
    (with_reducible repeat (first | exact Below.refl _ _ | refine bl_alloc ?_ _ | refine bl_drew ?_ | refine bl_drewN ?_ _ | (refine bl_set ?_ ?_ _; (focus dsimp only; omega))))
  case round =>
    obtain ⟨i, bo, ds, a, c, rfl, rfl, rfl, hI⟩ := hrel
    have OWN := Lib.hid hI.out.own
    have hsz := hI.out.below.size
    have bo1 := hI.out.bo1
    have fin := hI.out.fin
    rw [← HXL.out] at fin
    have i0 : (0 : Int) ≤ (i : Int) := by omega
    by_cases h1 : i < n
    · have hgo : i < xs.length := by rw [← HXL.out]; exact h1
      have h1' : (i : Int) < (n : Int) := by omega
      have x9 := OX.out.getD i
      have y9 := OY.out.getD i
      rcases HX.out with h | ⟨g, o, _, rfl, hX⟩
      · exfalso
        have := HXL.out
        rw [h] at this
        simp at this
        omega
      · have c1 := kc_below hI.out.below (hX i h1)
        by_cases h2 : i < m
        · have h2' : (i : Int) < (m : Int) := by omega
          rcases HY.out with h | ⟨g2, o2, _, rfl, hY⟩
          · exfalso
            have := HYL.out
            rw [h] at this
            simp at this
            omega
          · have c2' := kc_below hI.out.below (hY i h2)
            by_cases h3 : bo + ys.getD i 0 ≤ xs.getD i 0
            · obtain ⟨d, hd⟩ : ∃ d, d = xs.getD i 0 - bo - ys.getD i 0 := ⟨_, rfl⟩
              have HN := fun a2 c2 w2 ho hb => Lib.hid (less_next (q := 0) (a2 := a2) (c2 := c2) (w2 := w2) hI.out OX.out OY.out hgo (d := d) (.inl ⟨by omega, rfl⟩) ho hb)
              have z0 : ((xs.getD i 0 : Nat) : Int) - (bo : Int) - ((ys.getD i 0 : Nat) : Int) = (d : Int) := by omega
              have z1 : ¬ ((d : Nat) : Int) < 0 := by omega
              have z2 : -10001 ≤ ((xs.getD i 0 : Nat) : Int) - (bo : Int) := by omega
              have d9 : d ≤ 9999 := by omega
              clear h3
              generalize xs.getD i 0 = x at c1 z0 z2 x9
              generalize ys.getD i 0 = y at c2' z0 y9
              clear hd hgo fin hI
              go_wp2_with (at_builtin; refine wpList_app1 rfl _ _ rfl a i c rfl w.heap.size ds (OWN.out.alloc _) wr.heap.size d rfl (by (with_reducible repeat (first | refine kc_drew ?_ | refine kc_drewN _ ?_ | (refine kc_new ?_ ?_; (focus first | rfl | (simp only [World.size_alloc, World.size_setCell, World.size_drew, size_drewN]; done)); (focus first | rfl | (simp; done))) | (refine kc_set0 ?_ ?_; (focus first | rfl | (simp; done))) | exact ct_of (by assumption) | refine ct_drew ?_ | refine ct_drewN _ ?_ | (refine ct_new ?_ ?_; (focus first | rfl | (simp only [World.size_alloc, World.size_setCell, World.size_drew, size_drewN]; done)); (focus first | rfl | (simp; done))) | refine ct_set _ _ ?_ | refine ct_alloc _ ?_ | (refine kc_set ?_ ?_; (focus first | (intro hx; injection hx; omega) | (simp; done))) | refine kc_alloc _ ?_))) (by simp; omega) (by omega) ?_; intro a2 c2 w2 HO hb2; have hb3 : Below w.heap.size wr w2 := (((Below.refl _ _).alloc (by omega) _).trans hb2))
              refine ⟨⟨i + 1, 0, ds ++ [d], a2, c2, rfl, rfl, by go_num, (HN a2 c2 w2 HO.out hb3).out⟩, by simp [intOf]; omega⟩
            · obtain ⟨d, hd⟩ : ∃ d, d = xs.getD i 0 + 10000 - bo - ys.getD i 0 := ⟨_, rfl⟩
              have HN := fun a2 c2 w2 ho hb => Lib.hid (less_next (q := 1) (a2 := a2) (c2 := c2) (w2 := w2) hI.out OX.out OY.out hgo (d := d) (.inr ⟨by omega, rfl, by omega⟩) ho hb)
              have z0 : ((xs.getD i 0 : Nat) : Int) - (bo : Int) - ((ys.getD i 0 : Nat) : Int) + 10000 = (d : Int) := by omega
              have z1 : ((xs.getD i 0 : Nat) : Int) - (bo : Int) - ((ys.getD i 0 : Nat) : Int) < 0 := by omega
              have z2 : -10001 ≤ ((xs.getD i 0 : Nat) : Int) - (bo : Int) := by omega
              have z3 : -20001 ≤ ((xs.getD i 0 : Nat) : Int) - (bo : Int) - ((ys.getD i 0 : Nat) : Int) := by omega
              have d9 : d ≤ 9999 := by omega
              clear h3
              generalize xs.getD i 0 = x at c1 z0 z1 z2 z3 x9
              generalize ys.getD i 0 = y at c2' z0 z1 z3 y9
              clear hd hgo fin hI
              go_wp2_with (at_builtin; refine wpList_app1 rfl _ _ rfl a i c rfl w.heap.size ds (OWN.out.alloc _) wr.heap.size d rfl (by (with_reducible repeat (first | refine kc_drew ?_ | refine kc_drewN _ ?_ | (refine kc_new ?_ ?_; (focus first | rfl | (simp only [World.size_alloc, World.size_setCell, World.size_drew, size_drewN]; done)); (focus first | rfl | (simp; done))) | (refine kc_set0 ?_ ?_; (focus first | rfl | (simp; done))) | exact ct_of (by assumption) | refine ct_drew ?_ | refine ct_drewN _ ?_ | (refine ct_new ?_ ?_; (focus first | rfl | (simp only [World.size_alloc, World.size_setCell, World.size_drew, size_drewN]; done)); (focus first | rfl | (simp; done))) | refine ct_set _ _ ?_ | refine ct_alloc _ ?_ | (refine kc_set ?_ ?_; (focus first | (intro hx; injection hx; omega) | (simp; done))) | refine kc_alloc _ ?_))) (by simp; omega) (by omega) ?_; intro a2 c2 w2 HO hb2; have hb3 : Below w.heap.size wr w2 := (((Below.refl _ _).alloc (by omega) _).trans hb2))
              refine ⟨⟨i + 1, 1, ds ++ [d], a2, c2, rfl, rfl, by go_num, (HN a2 c2 w2 HO.out hb3).out⟩, by simp [intOf]; omega⟩
        · have e2 : ys.getD i 0 = 0 := by
            rw [List.getD_eq_getElem?_getD, List.getElem?_eq_none (by have := HYL.out; omega)]; rfl
          by_cases h3 : bo ≤ xs.getD i 0
          · obtain ⟨d, hd⟩ : ∃ d, d = xs.getD i 0 - bo := ⟨_, rfl⟩
            have HN := fun a2 c2 w2 ho hb => Lib.hid (less_next (q := 0) (a2 := a2) (c2 := c2) (w2 := w2) hI.out OX.out OY.out hgo (d := d) (.inl ⟨by omega, rfl⟩) ho hb)
            have z0 : ((xs.getD i 0 : Nat) : Int) - (bo : Int) = (d : Int) := by omega
            have z1 : ¬ ((d : Nat) : Int) < 0 := by omega
            have d9 : d ≤ 9999 := by omega
            clear x9 y9 h3 e2
            generalize xs.getD i 0 = x at c1 z0
            clear hd hgo fin hI
            go_wp2_with (at_builtin; refine wpList_app1 rfl _ _ rfl a i c rfl w.heap.size ds (OWN.out.alloc _) wr.heap.size d rfl (by (with_reducible repeat (first | refine kc_drew ?_ | refine kc_drewN _ ?_ | (refine kc_new ?_ ?_; (focus first | rfl | (simp only [World.size_alloc, World.size_setCell, World.size_drew, size_drewN]; done)); (focus first | rfl | (simp; done))) | (refine kc_set0 ?_ ?_; (focus first | rfl | (simp; done))) | exact ct_of (by assumption) | refine ct_drew ?_ | refine ct_drewN _ ?_ | (refine ct_new ?_ ?_; (focus first | rfl | (simp only [World.size_alloc, World.size_setCell, World.size_drew, size_drewN]; done)); (focus first | rfl | (simp; done))) | refine ct_set _ _ ?_ | refine ct_alloc _ ?_ | (refine kc_set ?_ ?_; (focus first | (intro hx; injection hx; omega) | (simp; done))) | refine kc_alloc _ ?_))) (by simp; omega) (by omega) ?_; intro a2 c2 w2 HO hb2; have hb3 : Below w.heap.size wr w2 := (((Below.refl _ _).alloc (by omega) _).trans hb2))
            refine ⟨⟨i + 1, 0, ds ++ [d], a2, c2, rfl, rfl, by go_num, (HN a2 c2 w2 HO.out hb3).out⟩, by simp [intOf]; omega⟩
          · obtain ⟨d, hd⟩ : ∃ d, d = xs.getD i 0 + 10000 - bo := ⟨_, rfl⟩
            have HN := fun a2 c2 w2 ho hb => Lib.hid (less_next (q := 1) (a2 := a2) (c2 := c2) (w2 := w2) hI.out OX.out OY.out hgo (d := d) (.inr ⟨by omega, rfl, by omega⟩) ho hb)
            have z0 : ((xs.getD i 0 : Nat) : Int) - (bo : Int) + 10000 = (d : Int) := by omega
            have z1 : ((xs.getD i 0 : Nat) : Int) - (bo : Int) < 0 := by omega
            have z2 : -10001 ≤ ((xs.getD i 0 : Nat) : Int) - (bo : Int) := by omega
            have d9 : d ≤ 9999 := by omega
            clear h3 e2
            generalize xs.getD i 0 = x at c1 z0 z1 z2 x9
            clear hd hgo fin hI
            go_wp2_with (at_builtin; refine wpList_app1 rfl _ _ rfl a i c rfl w.heap.size ds (OWN.out.alloc _) wr.heap.size d rfl (by (with_reducible repeat (first | refine kc_drew ?_ | refine kc_drewN _ ?_ | (refine kc_new ?_ ?_; (focus first | rfl | (simp only [World.size_alloc, World.size_setCell, World.size_drew, size_drewN]; done)); (focus first | rfl | (simp; done))) | (refine kc_set0 ?_ ?_; (focus first | rfl | (simp; done))) | exact ct_of (by assumption) | refine ct_drew ?_ | refine ct_drewN _ ?_ | (refine ct_new ?_ ?_; (focus first | rfl | (simp only [World.size_alloc, World.size_setCell, World.size_drew, size_drewN]; done)); (focus first | rfl | (simp; done))) | refine ct_set _ _ ?_ | refine ct_alloc _ ?_ | (refine kc_set ?_ ?_; (focus first | (intro hx; injection hx; omega) | (simp; done))) | refine kc_alloc _ ?_))) (by simp; omega) (by omega) ?_; intro a2 c2 w2 HO hb2; have hb3 : Below w.heap.size wr w2 := (((Below.refl _ _).alloc (by omega) _).trans hb2))
            refine ⟨⟨i + 1, 1, ds ++ [d], a2, c2, rfl, rfl, by go_num, (HN a2 c2 w2 HO.out hb3).out⟩, by simp [intOf]; omega⟩
    · obtain rfl : i = n := by omega
      have hV : Hid (RdD w.heap.size wr a i c ds ∧ Ok ds ∧ val ds = val xs - val ys ∧ i ≤ i) := by
        have e := hI.out.eq
        rw [List.take_of_length_le (by have := HYL.out; omega), List.take_of_length_le (by have := HXL.out; omega)] at e
        have hlt := val_lt hI.out.ok
        rw [← hI.out.len] at hlt
        have := HV.out
        refine ⟨own_rd hI.out.own, hI.out.ok, ?_, Nat.le_refl _⟩
        rcases (show bo = 0 ∨ bo = 1 by omega) with rfl | rfl
        · omega
        · omega
      have hB := hI.out.below
      clear hI fin HV
      go_wp2_with fail
      go_ret
      exact ⟨a, i, c, ds, rfl, hV, hB⟩
end Go.Proofs.Ytoenimkgagndnaa
