/- A region that draws its order, of operations that each yield one value in every world of a kind and lead to a world of that kind: one order serves for all. -/
import Derived.Test.YtoenimkgagndnaaGa
import Derived.Orders
import Derived.Lib.Hide
namespace Go.Proofs.Ytoenimkgagndnaa
set_option linter.unusedVariables false
set_option linter.unusedSimpArgs false
open Go.RowKit Go.Lib

section
variable {P : Program} {ops : Array Oper} {Q : Exit → Act → World → Prop} {md : Region.Mode} {S : World → Prop}

/-- What an operation's run yields: v (where it has a slot at all), in a world of the kind. -/
def Gives (P : Program) (S : World → Prop) (o : Oper) (v : Value) : Result Next → Prop
  | .ok (.value u) w' => (o.dst = none ∨ u = v) ∧ S w'
  | .ok .skip w' => (o.dst = none ∨ undef = v) ∧ S w'
  | .ok (.enter f args) w' => Calls P f args w' fun e w'' => ∃ u, e = .returned u ∧ (o.dst = none ∨ u = v) ∧ S w''
  | .ok (.row row args) w' => Rows P row args w' fun u w'' => (o.dst = none ∨ u = v) ∧ S w''
  | _ => False
def Calms (P : Program) (ops : Array Oper) (S : World → Prop) (o : Oper) (v : Value) (a : Act) : Prop :=
  (Region.wanted o (yielded ops a.tmps) = true ∧ ∀ w, S w → Gives P S o v ((execOp a.eval o).run P w)) ∨ (Region.wanted o (yielded ops a.tmps) = false ∧ (o.dst = none ∨ undef = v))

theorem put_same {a : Act} {d : Option Tmp} {u v : Value} (h : d = none ∨ u = v) : a.put d u = a.put d v := by
  rcases h with rfl | rfl <;> rfl

theorem Calms.wpOp {i : Nat} {o : Oper} {v : Value} {a : Act} (hi : ops[i]? = some o) (hy : Calms P ops S o v a) {K : Act → World → Prop} {w : World} (hS : S w) (h : ∀ w', S w' → K (a.put o.dst v) w') : wpOp P ops Q i K a w := by
  unfold Go.wpOp
  simp only [hi]
  rcases hy with ⟨hw, hv⟩ | ⟨hw, hv⟩
  · have hg := hv w hS
    simp only [hw, if_true]
    refine .inl ?_
    unfold Oper.wp
    generalize (execOp a.eval o).run P w = r at *
    match r, hg with
    | .ok (.value u) w', hg => simp only [Oper.upon]; rw [put_same hg.1]; exact h _ hg.2
    | .ok .skip w', hg => simp only [Oper.upon]; rw [put_same hg.1]; exact h _ hg.2
    | .ok (.enter f args) w', hg =>
      simp only [Oper.upon]
      refine Calls.mono hg fun e w'' he => ?_
      obtain ⟨u, rfl, h1, h2⟩ := he
      simp only
      rw [put_same h1]
      exact h _ h2
    | .ok (.row row args) w', hg =>
      simp only [Oper.upon]
      refine Rows.mono hg fun u w'' he => ?_
      rw [put_same he.1]
      exact h _ he.2
  · simp only [hw, Bool.false_eq_true, if_false]
    rw [put_same hv]
    exact h _ hS

theorem Calms.same {o : Oper} {v : Value} {a a' : Act} (hy : Calms P ops S o v a) (he : execOp a'.eval o = execOp a.eval o)
    (hw : Region.wanted o (yielded ops a'.tmps) = Region.wanted o (yielded ops a.tmps)) : Calms P ops S o v a' := by
  unfold Calms at *
  rw [he, hw]
  exact hy

/-- One order in which the rest of the region comes up calmly. -/
inductive Calm (P : Program) (md : Region.Mode) (ops : Array Oper) (Q : Exit → Act → World → Prop) (S : World → Prop) : Nat → Array Bool → Act → Prop
  | done {n : Nat} {listed : Array Bool} {a : Act} : Region.ready md ops listed = [] → (∀ w, S w → Q .normal a w) → Calm P md ops Q S n listed a
  | step {n : Nat} {listed : Array Bool} {a : Act} (i : Nat) (oi : Oper) (v : Value) : ops[i]? = some oi → i ∈ Region.ready md ops listed →
      (∀ j oj, ops[j]? = some oj → j ≠ i → listed.getD j true = false → (∀ e ∈ oj.after, Region.binds md e = true → e.on ≠ i) → oi.apart ops oj = true) →
      Calms P ops S oi v a → Calm P md ops Q S n (listed.setIfInBounds i true) (a.put oi.dst v) → Calm P md ops Q S (n + 1) listed a

/-- Whichever comes up next, it does so calmly, and so does the rest. -/
theorem Calm.any (hsel : ∀ (j : Nat) (o : Oper) cs b, ops[j]? = some o → o.op ≠ .select cs b) {n : Nat} {listed : Array Bool} {a : Act} (h : Calm P md ops Q S n listed a) : ∀ {j : Nat}, j ∈ Region.ready md ops listed →
    ∃ m oj vj, n = m + 1 ∧ ops[j]? = some oj ∧ Calms P ops S oj vj a ∧ Calm P md ops Q S m (listed.setIfInBounds j true) (a.put oj.dst vj) := by
  induction h with
  | done hr _ =>
    intro j hj
    rw [hr] at hj
    cases hj
  | @step n listed a i oi v hi hr hfree hy hrest ih =>
    intro j hj
    by_cases hji : j = i
    · subst hji
      exact ⟨n, oi, v, rfl, hi, hy, hrest⟩
    · obtain ⟨m, oj, vj, rfl, hoj, hyj, hc⟩ := ih (ready_mono hj hji)
      obtain ⟨hjun, oj', hoj', hall⟩ := mem_ready.1 hj
      obtain rfl : oj' = oj := by rw [hoj] at hoj'; exact (Option.some.inj hoj').symm
      have hnot : ∀ e ∈ oj'.after, Region.binds md e = true → e.on ≠ i := fun e he hb heq => by
        have h1 := hall e he hb
        have h0 := (mem_ready.1 hr).1
        rw [heq] at h1
        rcases Nat.lt_or_ge i listed.size with h' | h'
        · simp [h'] at h0 h1; rw [h0] at h1; cases h1
        · simp [Array.getElem?_eq_none h'] at h1
      have hap := hfree j oj' hoj hji hjun hnot
      obtain ⟨h1, h2, h3⟩ := Oper.apart_spec hap
      have hyj' : Calms P ops S oj' vj a := hyj.same (execOp_put oj' (fun cs b => hsel j oj' cs b hoj) a oi.dst v h1).symm (wanted_put oj' a oi.dst v h1).symm
      have hyi' : Calms P ops S oi v (a.put oj'.dst vj) := hy.same (execOp_put oi (fun cs b => hsel i oi cs b hi) a oj'.dst vj h3) (wanted_put oi a oj'.dst vj h3)
      refine ⟨m + 1, oj', vj, rfl, hoj, hyj', .step i oi v hi (ready_mono hr (Ne.symm hji)) ?_ hyi' ?_⟩
      · intro k ok hk hki hun hno
        refine hfree k ok hk hki ?_ hno
        by_cases hjk : j = k
        · subst hjk; exact hjun
        · rw [getD_set_ne true hjk] at hun; exact hun
      · rw [Array.setIfInBounds_comm _ _ hji, Act.put_comm a vj v (fun d hd hd' => h2 d hd' hd)]
        exact hc

theorem Calm.all (hsel : ∀ (j : Nat) (o : Oper) cs b, ops[j]? = some o → o.op ≠ .select cs b) : ∀ {n : Nat} {listed : Array Bool} {a : Act}, Calm P md ops Q S n listed a → ∀ w, S w → wpAny P md ops Q n listed a w
  | 0, _, _, h, w, hS => by
    cases h with
    | done hr hq => exact ⟨hr, hq w hS⟩
  | n + 1, listed, a, h, w, hS => by
    refine ⟨fun hr => ?_, fun j hj => ?_⟩
    · cases h with
      | done _ hq => exact hq w hS
      | step i oi v hi hr' _ _ _ => rw [hr] at hr'; cases hr'
    · obtain ⟨m, oj, vj, hm, hoj, hy, hc⟩ := h.any hsel hj
      obtain rfl : m = n := by omega
      exact hy.wpOp hoj hS fun w' hS' => Calm.all hsel hc w' hS'

/-- The beginning: the kind holds of the world behind the draw. -/
theorem wp_region_calm (S : World → Prop) {id : Nat} {a : Act} {w : World} (hm : P.follows .mixedOrders = true) (hs : Region.noSelect ops = true) (hS : S w.drew)
    (h : Calm P .any ops Q S ops.size (Array.replicate ops.size false) a) : (Code.region id ops true).wp P Q a w :=
  wp_region_any hm (Calm.all (Region.noSelect_spec hs) h _ hS)

theorem wp_region_grown {id : Nat} {a : Act} {w : World} (hm : P.follows .mixedOrders = true) (hs : Region.noSelect ops = true)
    (h : Calm P .any ops Q (fun w' => Below w.heap.size w w') ops.size (Array.replicate ops.size false) a) : (Code.region id ops true).wp P Q a w :=
  wp_region_calm _ hm hs (Below.refl _ _).drew h

/-- The slot of an operation lies in the frame. -/
def inFrame (o : Oper) (a : Act) : Bool := match o.dst with
  | some d => decide (d < a.tmps.size)
  | none => true
theorem put_inj {o : Oper} {a : Act} (hd : inFrame o a = true) {u v : Value} (h : a.put o.dst u = a.put o.dst v) : o.dst = none ∨ u = v := by
  unfold inFrame at hd
  cases hdst : o.dst with
  | none => exact .inl rfl
  | some d =>
    rw [hdst] at hd h
    simp only [decide_eq_true_eq] at hd
    right
    have := congrArg (fun b : Act => b.tmps[d]?) h
    simpa [Act.put, hd] using this

/-- A step, in the words of the walk: k stands for what follows. -/
theorem Calm.next {n : Nat} {oi : Oper} {tl : List Oper} {listed : Array Bool} {a : Act} (i : Nat) (v : Value) (hi0 : ops.toList.drop i = oi :: tl) (hr : (Region.ready md ops listed).contains i = true) (hf : Region.free md ops listed i = true) (hd : inFrame oi a = true)
    (hy : ∀ (K : Act → World → Prop), Hid (∀ w, S w → K (a.put oi.dst v) w) → ∀ w, S w → if Region.wanted oi (yielded ops a.tmps) = true then Oper.wp P oi a w K (fun _ _ _ => False) else K (a.put oi.dst undef) w)
    (hw : ∃ w, S w)
    (h : Calm P md ops Q S n (listed.setIfInBounds i true) (a.put oi.dst v)) : Calm P md ops Q S (n + 1) listed a := by
  have hi : ops[i]? = some oi := by
    have h0 : (ops.toList.drop i)[0]? = some oi := by rw [hi0]; rfl
    rw [List.getElem?_drop] at h0
    simpa using h0
  refine .step i oi v hi (by simpa using hr) (Region.free_spec hi hf) ?_ h
  have hK := hy (fun a' w' => a' = a.put oi.dst v ∧ S w') (fun w' hS' => ⟨rfl, hS'⟩)
  by_cases hw' : Region.wanted oi (yielded ops a.tmps) = true
  · refine .inl ⟨hw', fun w hS => ?_⟩
    have hk := hK w hS
    rw [if_pos hw'] at hk
    unfold Oper.wp at hk
    generalize (execOp a.eval oi).run P w = r at *
    match r, hk with
    | .ok (.value u) w', hk => exact ⟨put_inj hd hk.1, hk.2⟩
    | .ok .skip w', hk => exact ⟨put_inj hd hk.1, hk.2⟩
    | .ok (.enter f args) w', hk =>
      refine Calls.mono hk fun e w'' he => ?_
      cases e with
      | returned u => exact ⟨u, rfl, put_inj hd he.1, he.2⟩
      | panicked c => exact he.elim
      | outgrown => obtain ⟨_, _, h⟩ := (he : LetsOut _); exact h.elim
    | .ok (.defer d) w', hk =>
      have := congrArg (fun b : Act => b.defers.length) hk.1
      cases hdst : oi.dst <;> simp [Act.put, hdst] at this
    | .ok (.row row args) w', hk => exact Rows.mono hk fun u w'' he => ⟨put_inj hd he.1, he.2⟩
    | .halt (.panic v) w', hk => exact hk.elim
  · refine .inr ⟨by simpa using hw', ?_⟩
    obtain ⟨w, hS⟩ := hw
    have hk := hK w hS
    rw [if_neg hw'] at hk
    exact put_inj hd hk.1
end
end Go.Proofs.Ytoenimkgagndnaa
