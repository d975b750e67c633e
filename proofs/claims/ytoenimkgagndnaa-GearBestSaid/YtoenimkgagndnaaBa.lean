/- Texts that gearBest_holds reaches: Kit, Calm, Held, Rel, Shelf, Num, Frac. -/
import Derived.WalkKit
import Derived.WalkSpells
import Derived.WalkLawsBesides
import Derived.WalkSmall
import Derived.Lib.Hide
import Derived.Deep.RegionHeld3
import Derived.BigQuiet
import Derived.Deep.QuietTactic
import Derived.Sort.Grow
import Derived.Orders
import Derived.Shelf.Small.Bits
import Derived.Shelf.Small.Wraps
import Derived.Shelf.Strconv.Itoa0
import Derived.Shelf.Bits.Mul64
import Derived.Ground.Names2Prog
import Derived.Shelf.Slices.Clone
import Derived.Shelf.Slices.SearchI
import Derived.Shelf.SlGeneric
import Derived.Shelf.SlSortCmp.WholeK
import Derived.Shelf.SlSortCmp.NoneTotal
import Derived.Ground.SlsfProg
import Derived.Shelf.SlSorted.Search
import Derived.Ground.SlsoProg
import Derived.Test.YtoenimkgagndnaaProg
import Derived.PlainAid
import Derived.StillTailTactics
import Derived.Deep.DeepFit
import Derived.Laws.ResultCell
namespace Go.Proofs.Ytoenimkgagndnaa
set_option linter.unusedVariables false
set_option linter.unusedSimpArgs false
open Go.RowKit

theorem size_drewN (w : World) (n : Nat) : (w.drewN n).heap.size = w.heap.size := rfl

theorem sZ : (∀ (w : World) (o : Obj), (w.alloc o).heap.size = w.heap.size + 1) ∧ (∀ (w : World) (a : Addr) (v : Value), (w.setCell a v).heap.size = w.heap.size) ∧ (∀ w : World, w.drew.heap.size = w.heap.size) ∧ ∀ (w : World) (n : Nat), (w.drewN n).heap.size = w.heap.size := ⟨World.size_alloc, World.size_setCell, World.size_drew, size_drewN⟩
/-- There is a cell. -/
def there (w : World) (a : Addr) : Prop := ∃ u, w.cell? a = some u

section
variable {w W w1 : World} {a p : Addr} {v u : Value}
theorem kc_drew (h : w.cell? a = some v) : w.drew.cell? a = some v := h
theorem kc_drewN (n : Nat) (h : w.cell? a = some v) : (w.drewN n).cell? a = some v := h
theorem kc_below (hb : Below W.heap.size W w1) (h : W.cell? a = some v) : w1.cell? a = some v := (hb.cell (World.block_lt_of_cell? W a h)).trans h
theorem kc_alloc (o : Obj) (h : w.cell? a = some v) : (w.alloc o).cell? a = some v := (World.cell?_alloc_lt _ _ _ (World.block_lt_of_cell? w a h)).trans h
theorem kc_new {cs : Array Value} {t : TypeId} {b i : Nat} (hs : w.heap.size = b) (h : cs[i]? = some v) : (w.alloc (.cells cs t)).cell? ⟨b, i, none⟩ = some v := by
  subst hs
  rw [← h]
  unfold World.cell?
  rw [heap_alloc_new]
  simp
theorem kc_set0 (hu : u = v) (h : there w a) : (w.setCell a u).cell? a = some v := by
  subst hu
  obtain ⟨u0, h⟩ := h
  exact World.cell?_setCell_same' _ _ _ (by rw [h]; rfl)
theorem ct_of (h : w.cell? a = some v) : there w a := ⟨v, h⟩
theorem ct_drew (h : there w a) : there w.drew a := h
theorem ct_drewN (n : Nat) (h : there w a) : there (w.drewN n) a := h
theorem ct_below (hb : Below W.heap.size W w1) (h : there W a) : there w1 a := h.elim fun u h => ⟨u, kc_below hb h⟩
theorem ct_alloc (o : Obj) (h : there w a) : there (w.alloc o) a := h.elim fun u h => ⟨u, kc_alloc o h⟩
theorem ct_new {cs : Array Value} {t : TypeId} {b i : Nat} (hs : w.heap.size = b) (h : (cs[i]?).isSome = true) : there (w.alloc (.cells cs t)) ⟨b, i, none⟩ := by
  obtain ⟨v, hv⟩ := Option.isSome_iff_exists.1 h
  exact ⟨v, kc_new hs hv⟩
theorem ct_set (p : Addr) (u : Value) (h : there w a) : there (w.setCell p u) a := by
  obtain ⟨v, h⟩ := h
  by_cases e : p = a
  · subst e
    exact ⟨u, kc_set0 rfl ⟨v, h⟩⟩
  · exact ⟨v, (World.cell?_setCell_other w p a u e).trans h⟩
theorem kc_set (hp : p ≠ a) (h : w.cell? a = some v) : (w.setCell p u).cell? a = some v := (World.cell?_setCell_other w p a u hp).trans h
theorem kf_drew {b : Bool} (h : w.frozen? a = b) : w.drew.frozen? a = b := h
theorem kf_drewN {b : Bool} (n : Nat) (h : w.frozen? a = b) : (w.drewN n).frozen? a = b := h
theorem kf_below {b : Bool} (hb : Below W.heap.size W w1) (hl : a.block < W.heap.size) (h : W.frozen? a = b) : w1.frozen? a = b := (hb.frozen hl).trans h
theorem kf_alloc {b : Bool} (o : Obj) (hl : a.block < w.heap.size) (h : w.frozen? a = b) : (w.alloc o).frozen? a = b := by
  rw [← h]
  exact World.frozen?_of_block (Below.heap_alloc w o a.block hl)
theorem kf_new {cs : Array Value} {t : TypeId} {b : Nat} (hs : w.heap.size = b) (i : Nat) : (w.alloc (.cells cs t)).frozen? ⟨b, i, none⟩ = false := by
  subst hs
  exact World.frozen?_alloc_new w cs t i
theorem kf_set {b : Bool} (p : Addr) (u : Value) (h : w.frozen? a = b) : (w.setCell p u).frozen? a = b := by rw [World.frozen?_setCell]; exact h
theorem bl_alloc (h : Below w.heap.size w W) (o : Obj) : Below w.heap.size w (W.alloc o) := h.alloc h.size o
theorem bl_drew (h : Below w.heap.size w W) : Below w.heap.size w W.drew := h.drew
theorem bl_drewN (h : Below w.heap.size w W) (n : Nat) : Below w.heap.size w (W.drewN n) := below_drewN h n
theorem bl_set (hp : w.heap.size ≤ p.block) (h : Below w.heap.size w W) (u : Value) : Below w.heap.size w (W.setCell p u) := h.setCell hp u
theorem bR {n : Nat} {w : World} : Below n w w := Below.refl _ _
theorem bA {o : Obj} (h : Below w.heap.size w W) : Below w.heap.size w (W.alloc o) := bl_alloc h o
theorem bD (h : Below w.heap.size w W) : Below w.heap.size w W.drew := bl_drew h
theorem bN {n : Nat} (h : Below w.heap.size w W) : Below w.heap.size w (W.drewN n) := bl_drewN h n
theorem bS (hp : w.heap.size ≤ p.block) (h : Below w.heap.size w W) : Below w.heap.size w (W.setCell p u) := bl_set hp h u
theorem bl_call (h : Below w.heap.size w W) (hb : Below W.heap.size W w1) : Below w.heap.size w w1 := h.trans (hb.mono h.size)
end

/-! ### A world that has only grown: draws, and new blocks behind -/
def Gro (w w' : World) : Prop := ∃ (q : Nat) (os : Array Obj), w' = Go.Sort.grow (w.drewN q) os
section
variable {w W w1 : World}
theorem gro_refl (w : World) : Gro w w := ⟨0, #[], by rw [Go.Sort.grow_empty]; rfl⟩
theorem gro_alloc (h : Gro w W) (o : Obj) : Gro w (W.alloc o) := by
  obtain ⟨q, os, rfl⟩ := h
  exact ⟨q, os ++ #[o], by rw [Go.Sort.alloc_eq_grow, Go.Sort.grow_grow]⟩
theorem gro_drewN (h : Gro w W) (n : Nat) : Gro w (W.drewN n) := by
  obtain ⟨q, os, rfl⟩ := h
  refine ⟨q + n, os, ?_⟩
  rw [← World.drewN_drewN]
  rfl
theorem gro_drew (h : Gro w W) : Gro w W.drew := gro_drewN h 1
theorem gro_call (h : Gro w W) (k : Gro W w1) : Gro w w1 := by
  obtain ⟨q, os, rfl⟩ := h
  obtain ⟨q', os', rfl⟩ := k
  refine ⟨q + q', os ++ os', ?_⟩
  rw [← Go.Sort.grow_grow, ← World.drewN_drewN]
  rfl
theorem gro_set {b o : Nat} (hp : w.heap.size ≤ b) (h : Gro w W) (u : Value) : Gro w (W.setCell ⟨b, o, none⟩ u) := by
  obtain ⟨q, os, rfl⟩ := h
  exact ⟨q, _, (Go.Sort.setCell_eq _ _ _ _).trans (Go.Sort.mapBlock_grow_new (w.drewN q) os b _ hp)⟩
theorem Gro.below (h : Gro w W) : Below w.heap.size w W := by
  obtain ⟨q, os, rfl⟩ := h
  exact ⟨rfl, rfl, rfl, by simp [Go.Sort.grow, World.drewN], fun k hk => Go.Sort.heap_grow_old (w.drewN q) os hk⟩
end

theorem bcell {W w1 : World} (hb : Below W.heap.size W w1) : (∀ b o, b < W.heap.size → w1.cell? ⟨b, o, none⟩ = W.cell? ⟨b, o, none⟩) ∧ (∀ b o, b < W.heap.size → w1.frozen? ⟨b, o, none⟩ = W.frozen? ⟨b, o, none⟩) :=
  ⟨fun b o h => hb.cell (p := ⟨b, o, none⟩) h, fun b o h => hb.frozen (p := ⟨b, o, none⟩) h⟩

/-- A callee that leaves the world alone, met inside a quiet region. -/
theorem qt_same {P : Program} {f : FuncId} {args : Array Value} {w : World} {n : Nat} {v : Value}
    (h : Calls P f args (w.drewN n) fun e w' => e = .returned v ∧ w.drewN n = w') : Calls P f args (w.drewN n) fun e w'' => e = .returned v ∧ ∃ m, w'' = w.drewN m :=
  h.mono fun _ _ ⟨he, hm⟩ => ⟨he, n, hm.symm⟩

end Go.Proofs.Ytoenimkgagndnaa
namespace Go.Proofs.Ytoenimkgagndnaa
set_option linter.unusedVariables false
set_option linter.unusedSimpArgs false
open Go.RowKit Go.Lib

section
variable {P : Program} {ops : Array Oper} {Q : Exit → Act → World → Prop} {md : Region.Mode} {S : World → Prop}

/-- What an operation's run yields: v (where it has a slot at all), in a world of the kind. -/
def Gives (P : Program) (S : World → Prop) (o : Oper) (v : Value) : Result Next → Prop
  | .ok (.value u) w' => (o.dst = none ∨ u = v) ∧ S w'
  | .ok .skip w' => (o.dst = none ∨ undef = v) ∧ S w'
  | .ok (.enter f args) w' => Calls P f args w' fun e w'' => ∃ u, e = .returned u ∧ (o.dst = none ∨ u = v) ∧ S w''
  | .ok (.row row args) w' => Rows P row args w' fun u w'' => (o.dst = none ∨ u = v) ∧ S w''
  | _ => False
def Calms (P : Program) (ops : Array Oper) (S : World → Prop) (o : Oper) (v : Value) (a : Act) : Prop :=
  (Region.wanted o (yielded ops a.tmps) = true ∧ ∀ w, S w → Gives P S o v ((execOp a.eval o).run P w)) ∨ (Region.wanted o (yielded ops a.tmps) = false ∧ (o.dst = none ∨ undef = v))

theorem put_same {a : Act} {d : Option Tmp} {u v : Value} (h : d = none ∨ u = v) : a.put d u = a.put d v := by
  rcases h with rfl | rfl <;> rfl

theorem Calms.wpOp {i : Nat} {o : Oper} {v : Value} {a : Act} (hi : ops[i]? = some o) (hy : Calms P ops S o v a) {K : Act → World → Prop} {w : World} (hS : S w) (h : ∀ w', S w' → K (a.put o.dst v) w') : wpOp P ops Q i K a w := by
  unfold Go.wpOp
  simp only [hi]
  rcases hy with ⟨hw, hv⟩ | ⟨hw, hv⟩
  · have hg := hv w hS
    simp only [hw, if_true]
    refine .inl ?_
    unfold Oper.wp
    generalize (execOp a.eval o).run P w = r at *
    match r, hg with
    | .ok (.value u) w', hg => simp only [Oper.upon]; rw [put_same hg.1]; exact h _ hg.2
    | .ok .skip w', hg => simp only [Oper.upon]; rw [put_same hg.1]; exact h _ hg.2
    | .ok (.enter f args) w', hg =>
      simp only [Oper.upon]
      refine Calls.mono hg fun e w'' he => ?_
      obtain ⟨u, rfl, h1, h2⟩ := he
      simp only
      rw [put_same h1]
      exact h _ h2
    | .ok (.row row args) w', hg =>
      simp only [Oper.upon]
      refine Rows.mono hg fun u w'' he => ?_
      rw [put_same he.1]
      exact h _ he.2
  · simp only [hw, Bool.false_eq_true, if_false]
    rw [put_same hv]
    exact h _ hS

theorem Calms.same {o : Oper} {v : Value} {a a' : Act} (hy : Calms P ops S o v a) (he : execOp a'.eval o = execOp a.eval o)
    (hw : Region.wanted o (yielded ops a'.tmps) = Region.wanted o (yielded ops a.tmps)) : Calms P ops S o v a' := by
  unfold Calms at *
  rw [he, hw]
  exact hy

/-- One order in which the rest of the region comes up calmly. -/
inductive Calm (P : Program) (md : Region.Mode) (ops : Array Oper) (Q : Exit → Act → World → Prop) (S : World → Prop) : Nat → Array Bool → Act → Prop
  | done {n : Nat} {listed : Array Bool} {a : Act} : Region.ready md ops listed = [] → (∀ w, S w → Q .normal a w) → Calm P md ops Q S n listed a
  | step {n : Nat} {listed : Array Bool} {a : Act} (i : Nat) (oi : Oper) (v : Value) : ops[i]? = some oi → i ∈ Region.ready md ops listed →
      (∀ j oj, ops[j]? = some oj → j ≠ i → listed.getD j true = false → (∀ e ∈ oj.after, Region.binds md e = true → e.on ≠ i) → oi.apart ops oj = true) →
      Calms P ops S oi v a → Calm P md ops Q S n (listed.setIfInBounds i true) (a.put oi.dst v) → Calm P md ops Q S (n + 1) listed a

/-- Whichever comes up next, it does so calmly, and so does the rest. -/
theorem Calm.any (hsel : ∀ (j : Nat) (o : Oper) cs b, ops[j]? = some o → o.op ≠ .select cs b) {n : Nat} {listed : Array Bool} {a : Act} (h : Calm P md ops Q S n listed a) : ∀ {j : Nat}, j ∈ Region.ready md ops listed →
    ∃ m oj vj, n = m + 1 ∧ ops[j]? = some oj ∧ Calms P ops S oj vj a ∧ Calm P md ops Q S m (listed.setIfInBounds j true) (a.put oj.dst vj) := by
  induction h with
  | done hr _ =>
    intro j hj
    rw [hr] at hj
    cases hj
  | @step n listed a i oi v hi hr hfree hy hrest ih =>
    intro j hj
    by_cases hji : j = i
    · subst hji
      exact ⟨n, oi, v, rfl, hi, hy, hrest⟩
    · obtain ⟨m, oj, vj, rfl, hoj, hyj, hc⟩ := ih (ready_mono hj hji)
      obtain ⟨hjun, oj', hoj', hall⟩ := mem_ready.1 hj
      obtain rfl : oj' = oj := by rw [hoj] at hoj'; exact (Option.some.inj hoj').symm
      have hnot : ∀ e ∈ oj'.after, Region.binds md e = true → e.on ≠ i := fun e he hb heq => by
        have h1 := hall e he hb
        have h0 := (mem_ready.1 hr).1
        rw [heq] at h1
        rcases Nat.lt_or_ge i listed.size with h' | h'
        · simp [h'] at h0 h1; rw [h0] at h1; cases h1
        · simp [Array.getElem?_eq_none h'] at h1
      have hap := hfree j oj' hoj hji hjun hnot
      obtain ⟨h1, h2, h3⟩ := Oper.apart_spec hap
      have hyj' : Calms P ops S oj' vj a := hyj.same (execOp_put oj' (fun cs b => hsel j oj' cs b hoj) a oi.dst v h1).symm (wanted_put oj' a oi.dst v h1).symm
      have hyi' : Calms P ops S oi v (a.put oj'.dst vj) := hy.same (execOp_put oi (fun cs b => hsel i oi cs b hi) a oj'.dst vj h3) (wanted_put oi a oj'.dst vj h3)
      refine ⟨m + 1, oj', vj, rfl, hoj, hyj', .step i oi v hi (ready_mono hr (Ne.symm hji)) ?_ hyi' ?_⟩
      · intro k ok hk hki hun hno
        refine hfree k ok hk hki ?_ hno
        by_cases hjk : j = k
        · subst hjk; exact hjun
        · rw [getD_set_ne true hjk] at hun; exact hun
      · rw [Array.setIfInBounds_comm _ _ hji, Act.put_comm a vj v (fun d hd hd' => h2 d hd' hd)]
        exact hc

theorem Calm.all (hsel : ∀ (j : Nat) (o : Oper) cs b, ops[j]? = some o → o.op ≠ .select cs b) : ∀ {n : Nat} {listed : Array Bool} {a : Act}, Calm P md ops Q S n listed a → ∀ w, S w → wpAny P md ops Q n listed a w
  | 0, _, _, h, w, hS => by
    cases h with
    | done hr hq => exact ⟨hr, hq w hS⟩
  | n + 1, listed, a, h, w, hS => by
    refine ⟨fun hr => ?_, fun j hj => ?_⟩
    · cases h with
      | done _ hq => exact hq w hS
      | step i oi v hi hr' _ _ _ => rw [hr] at hr'; cases hr'
    · obtain ⟨m, oj, vj, hm, hoj, hy, hc⟩ := h.any hsel hj
      obtain rfl : m = n := by omega
      exact hy.wpOp hoj hS fun w' hS' => Calm.all hsel hc w' hS'

/-- The slot of an operation lies in the frame. -/
def inFrame (o : Oper) (a : Act) : Bool := match o.dst with
  | some d => decide (d < a.tmps.size)
  | none => true
theorem put_inj {o : Oper} {a : Act} (hd : inFrame o a = true) {u v : Value} (h : a.put o.dst u = a.put o.dst v) : o.dst = none ∨ u = v := by
  unfold inFrame at hd
  cases hdst : o.dst with
  | none => exact .inl rfl
  | some d =>
    rw [hdst] at hd h
    simp only [decide_eq_true_eq] at hd
    right
    have := congrArg (fun b : Act => b.tmps[d]?) h
    simpa [Act.put, hd] using this

/-- A step, in the words of the walk: k stands for what follows. -/
theorem Calm.next {n : Nat} {oi : Oper} {tl : List Oper} {listed : Array Bool} {a : Act} (i : Nat) (v : Value) (hi0 : ops.toList.drop i = oi :: tl) (hr : (Region.ready md ops listed).contains i = true) (hf : Region.free md ops listed i = true) (hd : inFrame oi a = true)
    (hy : ∀ (K : Act → World → Prop), Hid (∀ w, S w → K (a.put oi.dst v) w) → ∀ w, S w → if Region.wanted oi (yielded ops a.tmps) = true then Oper.wp P oi a w K (fun _ _ _ => False) else K (a.put oi.dst undef) w)
    (hw : ∃ w, S w)
    (h : Calm P md ops Q S n (listed.setIfInBounds i true) (a.put oi.dst v)) : Calm P md ops Q S (n + 1) listed a := by
  have hi : ops[i]? = some oi := by
    have h0 : (ops.toList.drop i)[0]? = some oi := by rw [hi0]; rfl
    rw [List.getElem?_drop] at h0
    simpa using h0
  refine .step i oi v hi (by simpa using hr) (Region.free_spec hi hf) ?_ h
  have hK := hy (fun a' w' => a' = a.put oi.dst v ∧ S w') (fun w' hS' => ⟨rfl, hS'⟩)
  by_cases hw' : Region.wanted oi (yielded ops a.tmps) = true
  · refine .inl ⟨hw', fun w hS => ?_⟩
    have hk := hK w hS
    rw [if_pos hw'] at hk
    unfold Oper.wp at hk
    generalize (execOp a.eval oi).run P w = r at *
    match r, hk with
    | .ok (.value u) w', hk => exact ⟨put_inj hd hk.1, hk.2⟩
    | .ok .skip w', hk => exact ⟨put_inj hd hk.1, hk.2⟩
    | .ok (.enter f args) w', hk =>
      refine Calls.mono hk fun e w'' he => ?_
      cases e with
      | returned u => exact ⟨u, rfl, put_inj hd he.1, he.2⟩
      | panicked c => exact he.elim
      | outgrown => obtain ⟨_, _, h⟩ := (he : LetsOut _); exact h.elim
    | .ok (.defer d) w', hk =>
      have := congrArg (fun b : Act => b.defers.length) hk.1
      cases hdst : oi.dst <;> simp [Act.put, hdst] at this
    | .ok (.row row args) w', hk => exact Rows.mono hk fun u w'' he => ⟨put_inj hd he.1, he.2⟩
    | .halt (.panic v) w', hk => exact hk.elim
  · refine .inr ⟨by simpa using hw', ?_⟩
    obtain ⟨w, hS⟩ := hw
    have hk := hK w hS
    rw [if_neg hw'] at hk
    exact put_inj hd hk.1
end
end Go.Proofs.Ytoenimkgagndnaa
namespace Go.Proofs.Ytoenimkgagndnaa
set_option linter.unusedVariables false
set_option linter.unusedSimpArgs false
open Go.RowKit Go.Lib
section
variable {P : Program} {ops : Array Oper} {Q : Exit → Act → World → Prop} {md : Region.Mode} {S : World → Prop}

theorem of_drop {i : Nat} {oi : Oper} {tl : List Oper} (h : ops.toList.drop i = oi :: tl) : ops[i]? = some oi := by
  have h0 : (ops.toList.drop i)[0]? = some oi := by rw [h]; rfl
  rw [List.getElem?_drop] at h0
  simpa using h0

/-- An operation that yields its value in every world of the kind is taken first. -/
theorem takeH {oi : Oper} {tl : List Oper} {fuel : Nat} {listed : Array Bool} {a : Act} {w : World} (i : Nat) (v : Value) (hi : ops.toList.drop i = oi :: tl)
    (hs : Region.noSelect ops = true) (hf : Region.free md ops listed i = true) (hr : (Region.ready md ops listed).contains i = true)
    (hQ : ∀ c a w, Q (.panic c) (a.put oi.dst v) w → Q (.panic c) a w) (hy : ∀ w, S w → (execOp a.eval oi).run P w = .ok (.value v) w) (hw : Region.wanted oi (yielded ops a.tmps) = true) (hS : S w)
    (h : wpAnyH P md ops Q S fuel (listed.setIfInBounds i true) (a.put oi.dst v) w) : wpAnyH P md ops Q S (fuel + 1) listed a w :=
  wpAnyH_take (of_drop hi) hs hf hr hQ (Or.inl ⟨hw, hy⟩) hS h

/-- An operation that may come up comes up. -/
theorem consH {fuel : Nat} {listed : Array Bool} {a : Act} {w : World} {o : Oper} {tl : List Oper} {rs : List Nat} (i : Nat) (ho : ops.toList.drop i = o :: tl)
    (h : ∀ K' : Act → World → Prop, Shut (∀ a w, S w → (S w → wpAnyH P md ops Q S fuel (listed.setIfInBounds i true) a w) → K' a w) → if Region.wanted o (yielded ops a.tmps) = true then Oper.wp P o a w K' Q else K' (a.put o.dst undef) w)
    (hs : AllReadyH P md ops Q S fuel listed a w rs) : AllReadyH P md ops Q S fuel listed a w (i :: rs) :=
  AllReadyH.cons (of_drop ho) h hs
end
end Go.Proofs.Ytoenimkgagndnaa
namespace Go.Proofs.Ytoenimkgagndnaa
set_option linter.unusedVariables false
set_option linter.unusedSimpArgs false
open Go.RowKit Go.Lib

section
variable {P : Program} {ops : Array Oper} {Q : Exit → Act → World → Prop} {md : Region.Mode} {R : Nat → Value → Nat → Nat → World → Prop}

def dstOf (ops : Array Oper) (i : Nat) : Option Tmp := (ops[i]?).bind (·.dst)
/-- The frame behind some operations, whose values are told. -/
def putAll (ops : Array Oper) (a : Act) (val : Nat → Value) : List Nat → Act
  | [] => a
  | i :: l => putAll ops (a.put (dstOf ops i) (val i)) val l
/-- Operation j waits for operation i. -/
def waits (md : Region.Mode) (ops : Array Oper) (j i : Nat) : Bool := ((ops[j]?).map fun o => o.after.any fun e => Region.binds md e && e.on == i).getD false
def sameDst (ops : Array Oper) (i j : Nat) : Bool := match dstOf ops i with
  | some d => dstOf ops j == some d
  | none => false
def readsOf (ops : Array Oper) (j i : Nat) : Bool := match dstOf ops i, ops[j]? with
  | some d, some o => (o.looksAt ops).contains d
  | _, _ => false
/-- What is asked of the operations that come up first. -/
def relChk (md : Region.Mode) (ops : Array Oper) (L : List Nat) : Bool :=
  L.all (fun i => decide (i < ops.size)) && (L.all fun i => L.all fun j => i == j || !sameDst ops i j) && (L.all fun j => L.all fun i => i == j || waits md ops j i || !readsOf ops j i) &&
  ((List.range ops.size).all fun j => L.contains j || L.all fun i => waits md ops j i || L.any fun k => waits md ops j k && waits md ops k i) &&
  L.all fun j => ((ops[j]?).map fun o => o.after.all fun e => !Region.binds md e || (L.contains e.on && decide (e.on < j))).getD false

/-- What an operation's run yields: a value of the kind r, in a world that has grown. -/
def GiveM (P : Program) (r : Value → World → Prop) (w : World) : Result Next → Prop
  | .ok (.value u) w' => Below w.heap.size w w' ∧ r u w'
  | .ok .skip w' => Below w.heap.size w w' ∧ r undef w'
  | .ok (.enter f args) w' => Calls P f args w' fun e w'' => ∃ u, e = .returned u ∧ Below w.heap.size w w'' ∧ r u w''
  | .ok (.row row args) w' => Rows P row args w' fun u w'' => Below w.heap.size w w'' ∧ r u w''
  | _ => False
def GivesR (P : Program) (ops : Array Oper) (r : Value → World → Prop) (o : Oper) (a : Act) (w : World) : Prop :=
  (Region.wanted o (yielded ops a.tmps) = true ∧ GiveM P r w ((execOp a.eval o).run P w)) ∨ (Region.wanted o (yielded ops a.tmps) = false ∧ r undef w)

theorem GivesR.wpOp {r : Value → World → Prop} {o : Oper} {a : Act} {w : World} {j : Nat} (hj : ops[j]? = some o) (h : GivesR P ops r o a w) {K : Act → World → Prop} (hK : ∀ v w', Below w.heap.size w w' → r v w' → K (a.put o.dst v) w') : wpOp P ops Q j K a w := by
  unfold Go.wpOp
  simp only [hj]
  rcases h with ⟨hw, h⟩ | ⟨hw, h⟩
  · simp only [hw, if_true]
    refine .inl ?_
    unfold Oper.wp
    generalize (execOp a.eval o).run P w = q at *
    match q, h with
    | .ok (.value u) w', h => exact hK _ _ h.1 h.2
    | .ok .skip w', h => exact hK _ _ h.1 h.2
    | .ok (.enter f args) w', h =>
      simp only [Oper.upon]
      refine Calls.mono h fun e w'' he => ?_
      obtain ⟨u, rfl, h1, h2⟩ := he
      exact hK _ _ h1 h2
    | .ok (.row row args) w', h =>
      simp only [Oper.upon]
      exact Rows.mono h fun u w'' he => hK _ _ he.1 he.2
  · simp only [hw, Bool.false_eq_true, if_false]
    exact hK _ _ (Below.refl _ _) h

theorem GivesR.same {r : Value → World → Prop} {o : Oper} {a a' : Act} {w : World} (h : GivesR P ops r o a w) (he : execOp a'.eval o = execOp a.eval o) (hw : Region.wanted o (yielded ops a'.tmps) = Region.wanted o (yielded ops a.tmps)) : GivesR P ops r o a' w := by
  unfold GivesR at *
  rw [he, hw]
  exact h

/-- In the words of the walk: k stands for what follows. -/
theorem givesR_of {r : Value → World → Prop} {o : Oper} {a : Act} {w : World} (hd : inFrame o a = true)
    (h : ∀ (K : Act → World → Prop), Hid (∀ v w', Below w.heap.size w w' → r v w' → K (a.put o.dst v) w') → if Region.wanted o (yielded ops a.tmps) = true then Oper.wp P o a w K (fun _ _ _ => False) else K (a.put o.dst undef) w) (hdst : o.dst ≠ none) : GivesR P ops r o a w := by
  have hK := h (fun a' w' => ∃ v, a' = a.put o.dst v ∧ Below w.heap.size w w' ∧ r v w') (fun v w' h1 h2 => ⟨v, rfl, h1, h2⟩)
  have inj : ∀ {u v}, a.put o.dst u = a.put o.dst v → u = v := fun hp => (put_inj hd hp).resolve_left hdst
  by_cases hw : Region.wanted o (yielded ops a.tmps) = true
  · rw [if_pos hw] at hK
    refine .inl ⟨hw, ?_⟩
    unfold Oper.wp at hK
    generalize (execOp a.eval o).run P w = q at *
    match q, hK with
    | .ok (.value u) w', hK => obtain ⟨v, h1, h2, h3⟩ := hK; rw [inj h1]; exact ⟨h2, h3⟩
    | .ok .skip w', hK => obtain ⟨v, h1, h2, h3⟩ := hK; exact ⟨h2, (inj h1).symm ▸ h3⟩
    | .ok (.enter f args) w', hK =>
      refine Calls.mono hK fun e w'' he => ?_
      cases e with
      | returned u => obtain ⟨v, h1, h2, h3⟩ := he; exact ⟨u, rfl, h2, by rw [inj h1]; exact h3⟩
      | panicked c => exact he.elim
      | outgrown => obtain ⟨_, _, h⟩ := (he : LetsOut _); exact h.elim
    | .ok (.row row args) w', hK => exact Rows.mono hK fun u w'' he => by obtain ⟨v, h1, h2, h3⟩ := he; rw [inj h1]; exact ⟨h2, h3⟩
    | .ok (.defer d) w', hK =>
      obtain ⟨v, h1, _⟩ := hK
      have := congrArg (fun b : Act => b.defers.length) h1
      cases hdst : o.dst <;> simp [Act.put, hdst] at this
    | .halt (.panic v) w', hK => exact hK.elim
  · rw [if_neg hw] at hK
    obtain ⟨v, h1, _, h3⟩ := hK
    refine .inr ⟨by simpa using hw, ?_⟩
    rw [inj h1]
    exact h3

theorem putAll_put (a : Act) (val : Nat → Value) (d : Option Tmp) (v : Value) : ∀ (l : List Nat), (∀ i ∈ l, ∀ t, d = some t → dstOf ops i ≠ some t) → putAll ops (a.put d v) val l = (putAll ops a val l).put d v
  | [], _ => rfl
  | i :: l, h => by
    show putAll ops ((a.put d v).put (dstOf ops i) (val i)) val l = (putAll ops (a.put (dstOf ops i) (val i)) val l).put d v
    rw [Act.put_comm a v (val i) (fun t ht => h i (by simp) t ht)]
    exact putAll_put (a.put (dstOf ops i) (val i)) val d v l (fun x hx => h x (by simp [hx]))
theorem putAll_upd (a : Act) (val : Nat → Value) (j : Nat) (v : Value) : ∀ (l : List Nat), j ∉ l → putAll ops a (fun i => if i = j then v else val i) l = putAll ops a val l
  | [], _ => rfl
  | i :: l, h => by
    simp only [List.mem_cons, not_or] at h
    show putAll ops (a.put _ (if i = j then v else val i)) _ l = putAll ops (a.put _ (val i)) val l
    rw [if_neg (Ne.symm h.1)]
    exact putAll_upd _ val j v l h.2
theorem putAll_append (a : Act) (val : Nat → Value) (l1 l2 : List Nat) : putAll ops a val (l1 ++ l2) = putAll ops (putAll ops a val l1) val l2 := by
  induction l1 generalizing a with
  | nil => rfl
  | cons i l ih => exact ih _
theorem putAll_insert (a : Act) (val : Nat → Value) (j : Nat) (v : Value) (l1 l2 : List Nat) (h1 : j ∉ l1) (h2 : j ∉ l2) (hd : ∀ i ∈ l2, ∀ t, dstOf ops j = some t → dstOf ops i ≠ some t) :
    (putAll ops a val (l1 ++ l2)).put (dstOf ops j) v = putAll ops a (fun i => if i = j then v else val i) (l1 ++ j :: l2) := by
  rw [putAll_append, putAll_append, putAll_upd _ _ _ _ l1 h1]
  show _ = putAll ops ((putAll ops a val l1).put (dstOf ops j) (if j = j then v else val j)) _ l2
  rw [if_pos rfl, putAll_upd _ _ _ _ l2 h2, putAll_put _ _ _ _ l2 hd]

/-- An operation sees of the frame only what it reads. -/
theorem exec_filter (o : Oper) (hs : ∀ cs b, o.op ≠ .select cs b) (val : Nat → Value) (p : Nat → Bool) : ∀ (l : List Nat) (a : Act),
    (∀ i ∈ l, ∀ j ∈ l, i ≠ j → ∀ t, dstOf ops i = some t → dstOf ops j ≠ some t) → l.Nodup → (∀ i ∈ l, p i = false → ∀ t, dstOf ops i = some t → t ∉ o.looksAt ops) →
    execOp (putAll ops a val l).eval o = execOp (putAll ops a val (l.filter p)).eval o ∧ Region.wanted o (yielded ops (putAll ops a val l).tmps) = Region.wanted o (yielded ops (putAll ops a val (l.filter p)).tmps)
  | [], a, _, _, _ => ⟨rfl, rfl⟩
  | i :: l, a, hd, hn, hp => by
    have hn' := List.nodup_cons.1 hn
    have hd' : ∀ x ∈ l, ∀ j ∈ l, x ≠ j → ∀ t, dstOf ops x = some t → dstOf ops j ≠ some t := fun x hx j hj => hd x (by simp [hx]) j (by simp [hj])
    have hp' : ∀ x ∈ l, p x = false → ∀ t, dstOf ops x = some t → t ∉ o.looksAt ops := fun x hx => hp x (by simp [hx])
    cases hpi : p i with
    | true =>
      rw [List.filter_cons_of_pos (by simpa using hpi)]
      exact exec_filter o hs val p l _ hd' hn'.2 hp'
    | false =>
      rw [List.filter_cons_of_neg (by simp [hpi])]
      show execOp (putAll ops (a.put (dstOf ops i) (val i)) val l).eval o = _ ∧ Region.wanted o (yielded ops (putAll ops (a.put (dstOf ops i) (val i)) val l).tmps) = _
      rw [putAll_put _ _ _ _ l (fun x hx t ht => hd i (by simp) x (by simp [hx]) (fun e => hn'.1 (e ▸ hx)) t ht)]
      have ih := exec_filter o hs val p l a hd' hn'.2 hp'
      rw [execOp_put o hs _ _ _ (fun t ht => hp i (by simp) hpi t ht), wanted_put o _ _ _ (fun t ht => hp i (by simp) hpi t ht)]
      exact ih

structure RelOk (md : Region.Mode) (ops : Array Oper) (L : List Nat) : Prop where
  lt : ∀ i ∈ L, i < ops.size
  dst : ∀ i ∈ L, ∀ j ∈ L, i ≠ j → ∀ t, dstOf ops i = some t → dstOf ops j ≠ some t
  reads : ∀ j ∈ L, ∀ i ∈ L, i ≠ j → waits md ops j i = false → ∀ o, ops[j]? = some o → ∀ t, dstOf ops i = some t → t ∉ o.looksAt ops
  tail : ∀ j, j < ops.size → j ∉ L → ∀ i ∈ L, waits md ops j i = true ∨ ∃ k ∈ L, waits md ops j k = true ∧ waits md ops k i = true
  early : ∀ j ∈ L, ∀ o, ops[j]? = some o → ∀ e ∈ o.after, Region.binds md e = true → e.on ∈ L ∧ e.on < j
theorem relOk_of {L : List Nat} (h : relChk md ops L = true) : RelOk md ops L := by
  unfold relChk at h
  simp only [Bool.and_eq_true, List.all_eq_true, List.any_eq_true, decide_eq_true_eq, Bool.or_eq_true, beq_iff_eq, Bool.not_eq_true', List.mem_range, List.contains_iff_mem] at h
  obtain ⟨⟨⟨⟨h1, h2⟩, h3⟩, h4⟩, h5⟩ := h
  refine ⟨h1, fun i hi j hj hne t ht ht' => ?_, fun j hj i hi hne hw o ho t ht hm => ?_, fun j hj hn i hi => ((h4 j hj).resolve_left hn) i hi, fun j hj o ho e he hb => ?_⟩
  · have := (h2 i hi j hj).resolve_left hne
    unfold sameDst at this
    rw [ht] at this
    simp [ht'] at this
  · rcases h3 j hj i hi with (h | h) | h
    · exact hne h
    · rw [hw] at h; cases h
    · unfold readsOf at h
      rw [ht, ho] at h
      simp only at h
      rw [← Bool.not_eq_true, List.contains_iff_mem] at h
      exact h hm
  · have := h5 j hj
    rw [ho] at this
    simp only [Option.map_some, Option.getD_some, Array.all_eq_true_iff_forall_mem, Bool.or_eq_true, Bool.not_eq_true', Bool.and_eq_true, decide_eq_true_eq] at this
    rcases this e he with h | h
    · rw [hb] at h; cases h
    · exact ⟨List.contains_iff_mem.1 h.1, h.2⟩

/-- Which operations have come up. -/
def marks (n : Nat) (l : List Nat) : Array Bool := l.foldl (fun a i => a.setIfInBounds i true) (Array.replicate n false)
theorem marks_get (n : Nat) (l : List Nat) (i : Nat) (hi : i < n) : (marks n l)[i]? = some (decide (i ∈ l)) := by
  have key : ∀ (l : List Nat) (a : Array Bool), a.size = n → (l.foldl (fun a i => a.setIfInBounds i true) a).size = n ∧ (l.foldl (fun a i => a.setIfInBounds i true) a)[i]? = if i ∈ l then some true else a[i]? := by
    intro l
    induction l with
    | nil => intro a ha; exact ⟨ha, by simp⟩
    | cons j l ih =>
      intro a ha
      obtain ⟨h1, h2⟩ := ih (a.setIfInBounds j true) (by simpa using ha)
      refine ⟨h1, ?_⟩
      simp only [List.foldl_cons]
      rw [h2]
      by_cases hl : i ∈ l
      · simp [hl]
      · by_cases hij : i = j
        · subst hij
          simp [hl, ha, hi]
        · simp [hl, hij, Array.getElem?_setIfInBounds_ne (Ne.symm hij)]
  have := (key l (Array.replicate n false) (by simp)).2
  unfold marks
  rw [this]
  by_cases h : i ∈ l <;> simp [h, hi]
theorem marks_size (n : Nat) (l : List Nat) : (marks n l).size = n := by
  unfold marks
  have : ∀ (l : List Nat) (a : Array Bool), (l.foldl (fun a i => a.setIfInBounds i true) a).size = a.size := by
    intro l
    induction l with
    | nil => intro a; rfl
    | cons j l ih => intro a; simp only [List.foldl_cons]; rw [ih]; simp
  rw [this]; simp
theorem marks_same {n : Nat} {l l' : List Nat} (h : ∀ i, i < n → (i ∈ l ↔ i ∈ l')) : marks n l = marks n l' := by
  apply Array.ext
  · rw [marks_size, marks_size]
  · intro i h1 h2
    rw [marks_size] at h1
    have a := marks_get n l i h1
    have b := marks_get n l' i h1
    rw [Array.getElem?_eq_getElem (by rw [marks_size]; exact h1)] at a b
    simp only [Option.some.injEq] at a b
    rw [a, b]
    simp [h i h1]
theorem marks_set {n : Nat} (l : List Nat) (j : Nat) : (marks n l).setIfInBounds j true = marks n (l ++ [j]) := by
  unfold marks
  rw [List.foldl_append]
  rfl

theorem rel_all (hsel : ∀ (j : Nat) (o : Oper) cs b, ops[j]? = some o → o.op ≠ .select cs b) {L : List Nat} (hL : L.Nodup) (ok : RelOk md ops L) {a0 : Act} {w0 : World}
    (hR : ∀ i ∈ L, ∀ v lo hi w w', R i v lo hi w → Below w.heap.size w w' → R i v lo hi w')
    (hob : ∀ j ∈ L, ∀ o, ops[j]? = some o → ∀ w val (lo hi : Nat → Nat), Below w0.heap.size w0 w → (∀ i ∈ L, waits md ops j i = true → R i (val i) (lo i) (hi i) w) → GivesR P ops (fun v w' => R j v w.heap.size w'.heap.size w') o (putAll ops a0 val (L.filter fun i => waits md ops j i)) w)
    {m : Nat} (hfin : ∀ w val (lo hi : Nat → Nat), Below w0.heap.size w0 w → (∀ i ∈ L, R i (val i) (lo i) (hi i) w) → (∀ i ∈ L, ∀ j ∈ L, i ≠ j → hi i ≤ lo j ∨ hi j ≤ lo i) → wpAny P md ops Q m (marks ops.size L) (putAll ops a0 val L) w) :
    ∀ (k : Nat) (p : Nat → Bool) (val : Nat → Value) (lo hi : Nat → Nat) (w : World), (L.filter fun i => !p i).length = k → (∀ x ∈ L, p x = true → ∀ i ∈ L, waits md ops x i = true → p i = true) → Below w0.heap.size w0 w → (∀ i ∈ L, p i = true → R i (val i) (lo i) (hi i) w ∧ hi i ≤ w.heap.size) →
      (∀ i ∈ L, ∀ j ∈ L, p i = true → p j = true → i ≠ j → hi i ≤ lo j ∨ hi j ≤ lo i) →
      wpAny P md ops Q (m + k) (marks ops.size (L.filter p)) (putAll ops a0 val (L.filter p)) w
  | 0, p, val, lo, hi, w, hk, hcl, hb, hv, hd => by
    have hall : ∀ i ∈ L, p i = true := fun i hi => by
      cases h : p i with
      | true => rfl
      | false =>
        have : i ∈ L.filter fun i => !p i := List.mem_filter.2 ⟨hi, by simp [h]⟩
        rw [List.length_eq_zero_iff.1 hk] at this
        cases this
    rw [List.filter_eq_self.2 hall]
    exact hfin w val lo hi hb (fun i hi => (hv i hi (hall i hi)).1) (fun i hi j hj hne => hd i hi j hj (hall i hi) (hall j hj) hne)
  | k + 1, p, val, lo, hi, w, hk, hcl, hb, hv, hd => by
    have hget : ∀ i, i < ops.size → (marks ops.size (L.filter p)).getD i true = decide (i ∈ L.filter p) := fun i hi => by
      rw [Array.getD_eq_getD_getElem?, marks_get _ _ _ hi]
      rfl
    refine ⟨fun hr => ?_, fun j hj => ?_⟩
    · -- the least of those that have not come up is ready
      exfalso
      have hex : ∃ i, i ∈ L ∧ p i = false := by
        have : (L.filter fun i => !p i) ≠ [] := fun h => by rw [h] at hk; cases hk
        obtain ⟨i, hi⟩ := List.exists_mem_of_ne_nil _ this
        have := List.mem_filter.1 hi
        exact ⟨i, this.1, by simpa using this.2⟩
      have hmin : ∀ n, ∀ i, i < n → i ∈ L → p i = false → ∃ i, i ∈ L ∧ p i = false ∧ ∀ x, x ∈ L → x < i → p x = true := by
        intro n
        induction n with
        | zero => intro i hi; omega
        | succ n ih =>
          intro i hi hiL hpi
          by_cases hx : ∃ x, x ∈ L ∧ x < i ∧ p x = false
          · obtain ⟨x, h1, h2, h3⟩ := hx
            exact ih x (by omega) h1 h3
          · refine ⟨i, hiL, hpi, fun x h1 h2 => ?_⟩
            cases h : p x with
            | true => rfl
            | false => exact absurd ⟨x, h1, h2, h⟩ hx
      obtain ⟨i0, h0, h0'⟩ := hex
      obtain ⟨i, hiL, hpi, hlow⟩ := hmin (i0 + 1) i0 (by omega) h0 h0'
      have hlt := ok.lt i hiL
      have : i ∈ Region.ready md ops (marks ops.size (L.filter p)) := by
        rw [mem_ready]
        refine ⟨?_, ops[i], Array.getElem?_eq_getElem hlt, fun e he hbd => ?_⟩
        · rw [hget i hlt]
          simp [List.mem_filter, hpi]
        · obtain ⟨e1, e2⟩ := ok.early i hiL _ (Array.getElem?_eq_getElem hlt) e he hbd
          rw [Array.getD_eq_getD_getElem?, marks_get _ _ _ (ok.lt _ e1)]
          simp [List.mem_filter, e1, hlow _ e1 e2]
      rw [hr] at this
      cases this
    · obtain ⟨hjun, o, hoj, hall⟩ := mem_ready.1 hj
      have hjlt : j < ops.size := (Array.getElem?_eq_some_iff.1 hoj).1
      rw [hget j hjlt, decide_eq_false_iff_not] at hjun
      have hdone : ∀ i ∈ L, waits md ops j i = true → p i = true := fun i hi hw => by
        unfold waits at hw
        rw [hoj] at hw
        simp only [Option.map_some, Option.getD_some] at hw
        obtain ⟨e, he, hbe⟩ := Array.any_eq_true'.1 hw
        simp only [Bool.and_eq_true, beq_iff_eq] at hbe
        have := hall e he hbe.1
        rw [hbe.2, Array.getD_eq_getD_getElem?, marks_get _ _ _ (ok.lt i hi)] at this
        simpa [List.mem_filter, hi] using this
      have hjL : j ∈ L := by
        by_cases h : j ∈ L
        · exact h
        · exfalso
          have hex : ∃ i, i ∈ L ∧ p i = false := by
            have : (L.filter fun i => !p i) ≠ [] := fun h => by rw [h] at hk; cases hk
            obtain ⟨i, hi⟩ := List.exists_mem_of_ne_nil _ this
            have := List.mem_filter.1 hi
            exact ⟨i, this.1, by simpa using this.2⟩
          obtain ⟨i, hi, hpi⟩ := hex
          have : p i = true := by
            rcases ok.tail j hjlt h i hi with h1 | ⟨x, hx, h1, h2⟩
            · exact hdone i hi h1
            · exact hcl x hx (hdone x hx h1) i hi h2
          rw [hpi] at this
          cases this
      have hpj : p j = false := by
        cases h : p j with
        | false => rfl
        | true => exact absurd (List.mem_filter.2 ⟨hjL, h⟩) hjun
      have hg := hob j hjL o hoj w val lo hi hb fun i hi hw => (hv i hi (hdone i hi hw)).1
      -- the frame at hand and the one that holds just what j waits for
      have hfe : (L.filter p).filter (fun i => waits md ops j i) = L.filter fun i => waits md ops j i := by
        rw [List.filter_filter]
        refine List.filter_congr fun i hi => ?_
        cases h : waits md ops j i with
        | false => simp
        | true => simp [hdone i hi h]
      have hx := exec_filter (ops := ops) o (fun cs b => hsel j o cs b hoj) val (fun i => waits md ops j i) (L.filter p) a0
        (fun i hi x hx => ok.dst i (List.mem_filter.1 hi).1 x (List.mem_filter.1 hx).1) (hL.sublist List.filter_sublist)
        (fun i hi hw t ht => ok.reads j hjL i (List.mem_filter.1 hi).1 (fun e => by rw [e] at hi; exact hjun hi) hw o hoj t ht)
      rw [hfe] at hx
      refine GivesR.wpOp hoj (hg.same hx.1 hx.2) fun v w' hbw hrv => ?_
      -- L parted at j
      obtain ⟨l1, l2, hl⟩ := List.append_of_mem hjL
      have hn := hL
      rw [hl] at hn
      have hn2 := List.nodup_append.1 hn
      have j1 : j ∉ l1 := fun h => hn2.2.2 j h j (by simp) rfl
      have j2 : j ∉ l2 := (List.nodup_cons.1 hn2.2.1).1
      have hdj : o.dst = dstOf ops j := by unfold dstOf; rw [hoj]; rfl
      have f1 : L.filter p = l1.filter p ++ l2.filter p := by rw [hl, List.filter_append, List.filter_cons_of_neg (by simp [hpj])]
      have f2 : (L.filter fun i => p i || i == j) = l1.filter p ++ j :: l2.filter p := by
        rw [hl, List.filter_append, List.filter_cons_of_pos (by simp)]
        congr 1
        · exact List.filter_congr fun i hi => by
            have : i ≠ j := fun e => j1 (e ▸ hi)
            simp [this]
        · congr 1
          exact List.filter_congr fun i hi => by
            have : i ≠ j := fun e => j2 (e ▸ hi)
            simp [this]
      have hput : (putAll ops a0 val (L.filter p)).put o.dst v = putAll ops a0 (fun i => if i = j then v else val i) (L.filter fun i => p i || i == j) := by
        rw [hdj, f1, f2]
        refine putAll_insert a0 val j v _ _ (fun h => j1 (List.mem_filter.1 h).1) (fun h => j2 (List.mem_filter.1 h).1) fun i hi t ht => ?_
        have hi2 := (List.mem_filter.1 hi).1
        exact ok.dst j hjL i (by rw [hl]; simp [hi2]) (fun e => j2 (e ▸ hi2)) t ht
      have hmk : (marks ops.size (L.filter p)).setIfInBounds j true = marks ops.size (L.filter fun i => p i || i == j) := by
        rw [marks_set]
        refine marks_same fun i _ => ?_
        rw [f1, f2]
        simp only [List.mem_append, List.mem_cons, List.mem_singleton]
        constructor
        · rintro ((h | h) | h)
          · exact .inl h
          · exact .inr (.inr h)
          · exact .inr (.inl (by simpa using h))
        · rintro (h | h | h)
          · exact .inl (.inl h)
          · exact .inr (by simpa using h)
          · exact .inl (.inr h)
      rw [hput, hmk]
      refine rel_all hsel hL ok hR hob hfin k (fun i => p i || i == j) _ (fun i => if i = j then w.heap.size else lo i) (fun i => if i = j then w'.heap.size else hi i) w' ?_ ?_ (hb.trans (hbw.mono hb.size)) ?_ ?_
      · have e1 : (L.filter fun i => !p i) = (l1.filter fun i => !p i) ++ j :: (l2.filter fun i => !p i) := by rw [hl, List.filter_append, List.filter_cons_of_pos (by simp [hpj])]
        have e2 : (L.filter fun i => !(p i || i == j)) = (l1.filter fun i => !p i) ++ (l2.filter fun i => !p i) := by
          rw [hl, List.filter_append, List.filter_cons_of_neg (by simp)]
          congr 1
          · exact List.filter_congr fun i hi => by
              have : i ≠ j := fun e => j1 (e ▸ hi)
              simp [this]
          · exact List.filter_congr fun i hi => by
              have : i ≠ j := fun e => j2 (e ▸ hi)
              simp [this]
        rw [e1] at hk
        rw [e2]
        simp only [List.length_append, List.length_cons] at hk ⊢
        omega
      · intro x hx hpx i hi' hw
        by_cases e : x = j
        · rw [e] at hw
          simp [hdone i hi' hw]
        · have : p x = true := by simpa [e] using hpx
          simp [hcl x hx this i hi' hw]
      · intro i hi' hpi
        by_cases e : i = j
        · subst e
          simp only [if_pos rfl]
          exact ⟨hrv, Nat.le_refl _⟩
        · simp only [if_neg e]
          have : p i = true := by simpa [e] using hpi
          have hvi := hv i hi' this
          exact ⟨hR i hi' _ _ _ _ _ hvi.1 hbw, Nat.le_trans hvi.2 hbw.size⟩
      · intro i hi' x hx' hpi hpx hne
        have hp : ∀ y, y ≠ j → (p y || y == j) = true → p y = true := fun y hy h => by simpa [hy] using h
        by_cases e : i = j
        · have e' : x ≠ j := fun h => hne (e.trans h.symm)
          simp only [if_pos e, if_neg e']
          exact .inr (hv x hx' (hp x e' hpx)).2
        · by_cases e' : x = j
          · simp only [if_neg e, if_pos e']
            exact .inl (hv i hi' (hp i e hpi)).2
          · simp only [if_neg e, if_neg e']
            exact hd i hi' x hx' (hp i e hpi) (hp x e' hpx) hne

/-- The beginning. -/
theorem wp_region_rel (L : List Nat) (R : Nat → Value → Nat → Nat → World → Prop) {id : Nat} {a : Act} {w : World} (hm : P.follows .mixedOrders = true) (hs : Region.noSelect ops = true) (hc : relChk .any ops L = true) (hL : L.Nodup) (hlen : L.length ≤ ops.size)
    (hR : ∀ i ∈ L, ∀ v lo hi w w', R i v lo hi w → Below w.heap.size w w' → R i v lo hi w')
    (hob : ∀ j ∈ L, ∀ o tl, ops.toList.drop j = o :: tl → ∀ w1 val (lo hi : Nat → Nat), Below w.heap.size w w1 → (∀ i ∈ L, waits .any ops j i = true → R i (val i) (lo i) (hi i) w1) → GivesR P ops (fun v w' => R j v w1.heap.size w'.heap.size w') o (putAll ops a val (L.filter fun i => waits .any ops j i)) w1)
    (hfin : ∀ w' val (lo hi : Nat → Nat), Below w.heap.size w w' → (∀ i ∈ L, R i (val i) (lo i) (hi i) w') → (∀ i ∈ L, ∀ j ∈ L, i ≠ j → hi i ≤ lo j ∨ hi j ≤ lo i) → wpAnyH P .any ops Q (fun _ => True) (ops.size - L.length) (marks ops.size L) (putAll ops a val L) w') : (Code.region id ops true).wp P Q a w := by
  refine wp_region_any hm ?_
  have hob' : ∀ j ∈ L, ∀ o, ops[j]? = some o → ∀ w1 val (lo hi : Nat → Nat), Below w.heap.size w w1 → (∀ i ∈ L, waits .any ops j i = true → R i (val i) (lo i) (hi i) w1) → GivesR P ops (fun v w' => R j v w1.heap.size w'.heap.size w') o (putAll ops a val (L.filter fun i => waits .any ops j i)) w1 := by
    intro j hj o ho
    have hlt : j < ops.toList.length := by
      have := (Array.getElem?_eq_some_iff.1 ho).1
      simpa using this
    refine hob j hj o (ops.toList.drop (j + 1)) ?_
    rw [List.drop_eq_getElem_cons hlt]
    congr 1
    have : ops.toList[j]? = some o := by rw [Array.getElem?_toList]; exact ho
    rw [List.getElem?_eq_getElem hlt] at this
    exact Option.some.inj this
  have := rel_all (Region.noSelect_spec hs) hL (relOk_of hc) hR hob' (fun w' val lo hi h1 h2 h3 => wpAny_of_held _ _ _ _ (hfin w' val lo hi h1 h2 h3)) L.length (fun _ => false) (fun _ => undef) (fun _ => 0) (fun _ => 0) w.drew (by simp) (fun i _ h => by cases h) (Below.refl _ _).drew (fun i _ h => by cases h) (fun i _ j _ h => by cases h)
  rw [show ops.size - L.length + L.length = ops.size by omega, show L.filter (fun _ => false) = [] by simp] at this
  exact this

/-- The same, with what each operation waits for told. -/
theorem wp_region_told (L : List Nat) (D : List (List Nat)) (R : Nat → Value → Nat → Nat → World → Prop) {id : Nat} {a : Act} {w : World} (hm : P.follows .mixedOrders = true) (hs : Region.noSelect ops = true) (hc : relChk .any ops L = true) (hL : L.Nodup) (hlen : L.length ≤ ops.size)
    (hD : (L.all fun j => (L.filter fun i => waits .any ops j i) == D.getD j []) = true)
    (hR : ∀ i ∈ L, ∀ v lo hi w w', R i v lo hi w → Below w.heap.size w w' → R i v lo hi w')
    (hob : ∀ j ∈ L, ∀ o tl, ops.toList.drop j = o :: tl → ∀ w1 val (lo hi : Nat → Nat), Below w.heap.size w w1 → (∀ i ∈ D.getD j [], R i (val i) (lo i) (hi i) w1) → GivesR P ops (fun v w' => R j v w1.heap.size w'.heap.size w') o (putAll ops a val (D.getD j [])) w1)
    (hfin : ∀ w' val (lo hi : Nat → Nat), Below w.heap.size w w' → (∀ i ∈ L, R i (val i) (lo i) (hi i) w') → (∀ i ∈ L, ∀ j ∈ L, i ≠ j → hi i ≤ lo j ∨ hi j ≤ lo i) → wpAnyH P .any ops Q (fun _ => True) (ops.size - L.length) (marks ops.size L) (putAll ops a val L) w') : (Code.region id ops true).wp P Q a w := by
  refine wp_region_rel L R hm hs hc hL hlen hR (fun j hj o tl ho w1 val lo hi hb hv => ?_) hfin
  have hj' : (L.filter fun i => waits .any ops j i) = D.getD j [] := by
    have := List.all_eq_true.1 hD j hj
    simpa using this
  rw [hj']
  refine hob j hj o tl ho w1 val lo hi hb fun i hi => ?_
  rw [← hj'] at hi
  exact hv i (List.mem_filter.1 hi).1 (List.mem_filter.1 hi).2
end
end Go.Proofs.Ytoenimkgagndnaa
namespace Go.Proofs
open Go.Shelf
def Try.lays264_ren : Go.Shelf.Ren := ⟨fun | 264 => 115 | n => n, fun | 53 => 77 | 46 => 142 | n => n, fun | n => n⟩
theorem Try.lays264 : Go.Proofs.Lays.n264 Try.prog Try.lays264_ren := {
  mixed := by kernel_rfl
  f264 := Try.func115.trans (congrArg some (by kernel_rfl))
  t46 := Try.underlying142
  a46 := Try.isAgg142
  z46 := Try.sizeOf142
  v46 := Try.zeroValue142
  t53 := Try.underlying77
  a53 := Try.isAgg77
  z53 := Try.sizeOf77
  v53 := Try.zeroValue77 }
open Go.RowKit Go.Lib in
theorem Try.bits_Mul64 (x y : Nat) (hx : x < 18446744073709551616) (hy : y < 18446744073709551616) (w : World) :
    Calls Try.prog 115 #[.int .u64 x, .int .u64 y] w fun e w' => e = .returned (.tuple #[.int .u64 ((x * y / 18446744073709551616 : Nat) : Int), .int .u64 ((x * y % 18446744073709551616 : Nat) : Int)]) ∧ w' = w := Any.bits_Mul64 Try.lays264 x y hx hy w
def Try.laysNm215_ren : Go.Shelf.Ren := ⟨fun | 15 => 109 | n => n, fun | 22 => 35 | 3 => 3 | 4 => 4 | n => n, fun | n => n⟩
theorem Try.laysNm215 : Go.Proofs.Lays2.n15 Try.prog Try.laysNm215_ren := {
  mixed := by kernel_rfl
  f15 := Try.func109.trans (congrArg some (by kernel_rfl))
  t3 := Try.underlying3
  a3 := Try.isAgg3
  z3 := Try.sizeOf3
  v3 := Try.zeroValue3
  t4 := Try.underlying4
  a4 := Try.isAgg4
  z4 := Try.sizeOf4
  v4 := Try.zeroValue4
  t22 := Try.underlying35
  a22 := Try.isAgg35
  z22 := Try.sizeOf35
  v22 := Try.zeroValue35
  i3 := by kernel_rfl }
open Go.RowKit Go.Lib in
/-- slices.Clone at []int: "Clone returns a copy of the slice. The elements are copied using assignment, so this is a shallow clone. The result may have additional unused capacity. The result preserves the nilness of s.": OF A SLICE THAT IS NOT nil IT RETURNS A SLICE THAT IS NOT nil, OF THE SAME ELEMENTS, IN MEMORY OF THE CALL's OWN: in the how-to's words (6f): 'w'.ownsRow B e 1 v' n cells': v' begins at the head of a row among the blocks from B on (B: the heap's size at the call), not frozen, whose first cells are the elements · 'Below B w w'': below B all is as it was. The capacity is whatever the run-time gives. 'zs': what the cells behind the slice's address hold; 'zs.take n': its elements. (LAID: no walk: one application.) -/
theorem Try.slices_Clone_int (b off n c : Nat) (zs : List Int) (w : World) (hz : n ≤ zs.length) (hbig : n * 8 ≤ 140737488355328) (hc : ∀ j, j < zs.length → w.cell? ⟨b, off + j, none⟩ = some (.int .i64 (zs.getD j 0))) :
    Calls Try.prog 109 #[.slice (some ⟨b, off, none⟩) n c] w fun e w' => ∃ v', e = .returned v' ∧ w'.ownsRow w.heap.size 3 1 v' n ((zs.take n).map (Value.int .i64)) ∧ v' ≠ .slice none 0 0 ∧ Below w.heap.size w w' := Any.slices_Clone_int Try.laysNm215 b off n c zs w hz hbig hc
def Try.sortS_ren : Go.Shelf.Ren := ⟨fun | 6 => 121 | 15 => 129 | 14 => 128 | 28 => 139 | 29 => 130 | 20 => 131 | 21 => 132 | 22 => 133 | 23 => 134 | 24 => 135 | 25 => 136 | 26 => 137 | 27 => 138 | 46 => 140 | 47 => 141 | 48 => 142 | 49 => 143 | 50 => 144 | 57 => 145 | n => n, fun | 22 => 125 | 24 => 102 | 25 => 139 | 3 => 3 | 39 => 142 | 0 => 0 | 53 => 157 | 55 => 77 | 4 => 4 | 46 => 151 | 45 => 150 | 50 => 97 | 5 => 5 | 9 => 9 | 66 => 158 | 70 => 162 | 76 => 164 | 77 => 49 | n => n, fun | n => n⟩
theorem Try.sortS : Go.Proofs.SlLaysF0.n6 Try.prog Try.sortS_ren := {
  mixed := by kernel_rfl
  f6 := ⟨Try.f121.name, by decide, Try.func121.trans (congrArg some (by kernel_rfl))⟩
  f14 := ⟨Try.f128.name, by decide, Try.func128.trans (congrArg some (by kernel_rfl))⟩
  f15 := Try.func129.trans (congrArg some (by kernel_rfl))
  f20 := ⟨Try.f131.name, by decide, Try.func131.trans (congrArg some (by kernel_rfl))⟩
  f21 := ⟨Try.f132.name, by decide, Try.func132.trans (congrArg some (by kernel_rfl))⟩
  f22 := ⟨Try.f133.name, by decide, Try.func133.trans (congrArg some (by kernel_rfl))⟩
  f23 := ⟨Try.f134.name, by decide, Try.func134.trans (congrArg some (by kernel_rfl))⟩
  f24 := ⟨Try.f135.name, by decide, Try.func135.trans (congrArg some (by kernel_rfl))⟩
  f25 := ⟨Try.f136.name, by decide, Try.func136.trans (congrArg some (by kernel_rfl))⟩
  f26 := ⟨Try.f137.name, by decide, Try.func137.trans (congrArg some (by kernel_rfl))⟩
  f27 := ⟨Try.f138.name, by decide, Try.func138.trans (congrArg some (by kernel_rfl))⟩
  f28 := Try.func139.trans (congrArg some (by kernel_rfl))
  f29 := Try.func130.trans (congrArg some (by kernel_rfl))
  f46 := ⟨Try.f140.name, by decide, Try.func140.trans (congrArg some (by kernel_rfl))⟩
  f47 := Try.func141.trans (congrArg some (by kernel_rfl))
  f48 := Try.func142.trans (congrArg some (by kernel_rfl))
  f49 := ⟨Try.f143.name, by decide, Try.func143.trans (congrArg some (by kernel_rfl))⟩
  f50 := ⟨Try.f144.name, by decide, Try.func144.trans (congrArg some (by kernel_rfl))⟩
  f57 := ⟨Try.f145.name, by decide, Try.func145.trans (congrArg some (by kernel_rfl))⟩
  t0 := Try.underlying0
  a0 := Try.isAgg0
  z0 := Try.sizeOf0
  v0 := Try.zeroValue0
  t3 := Try.underlying3
  a3 := Try.isAgg3
  z3 := Try.sizeOf3
  v3 := Try.zeroValue3
  t4 := Try.underlying4
  a4 := Try.isAgg4
  z4 := Try.sizeOf4
  v4 := Try.zeroValue4
  t5 := Try.underlying5
  a5 := Try.isAgg5
  z5 := Try.sizeOf5
  v5 := Try.zeroValue5
  t9 := Try.underlying9
  a9 := Try.isAgg9
  z9 := Try.sizeOf9
  v9 := Try.zeroValue9
  t22 := Try.underlying125
  a22 := Try.isAgg125
  z22 := Try.sizeOf125
  v22 := Try.zeroValue125
  t25 := Try.underlying139
  a25 := Try.isAgg139
  z25 := Try.sizeOf139
  v25 := Try.zeroValue139
  t39 := Try.underlying142
  a39 := Try.isAgg142
  z39 := Try.sizeOf142
  v39 := Try.zeroValue142
  t45 := Try.underlying150
  a45 := Try.isAgg150
  z45 := Try.sizeOf150
  v45 := Try.zeroValue150
  t46 := Try.underlying151
  a46 := Try.isAgg151
  z46 := Try.sizeOf151
  v46 := Try.zeroValue151
  t50 := Try.underlying97
  a50 := Try.isAgg97
  z50 := Try.sizeOf97
  v50 := Try.zeroValue97
  t53 := Try.underlying157
  a53 := Try.isAgg157
  z53 := Try.sizeOf157
  v53 := Try.zeroValue157
  t55 := Try.underlying77
  a55 := Try.isAgg77
  z55 := Try.sizeOf77
  v55 := Try.zeroValue77
  t66 := Try.underlying158
  a66 := Try.isAgg158
  z66 := Try.sizeOf158
  v66 := Try.zeroValue158
  t70 := Try.underlying162
  a70 := Try.isAgg162
  z70 := Try.sizeOf162
  v70 := Try.zeroValue162
  t76 := Try.underlying164
  a76 := Try.isAgg164
  z76 := Try.sizeOf164
  v76 := Try.zeroValue164
  t77 := Try.underlying49
  a77 := Try.isAgg49
  z77 := Try.sizeOf49
  v77 := Try.zeroValue49 }
def Try.searchS_ren : Go.Shelf.Ren := ⟨fun | 16 => 106 | n => n, fun | 3 => 3 | 35 => 128 | 4 => 4 | 38 => 142 | n => n, fun | n => n⟩
theorem Try.searchS : Go.Proofs.SlLaysO.n16 Try.prog Try.searchS_ren := {
  mixed := by kernel_rfl
  f16 := Try.func106.trans (congrArg some (by kernel_rfl))
  t3 := Try.underlying3
  a3 := Try.isAgg3
  z3 := Try.sizeOf3
  v3 := Try.zeroValue3
  t4 := Try.underlying4
  a4 := Try.isAgg4
  z4 := Try.sizeOf4
  v4 := Try.zeroValue4
  t35 := Try.underlying128
  a35 := Try.isAgg128
  z35 := Try.sizeOf128
  v35 := Try.zeroValue128
  t38 := Try.underlying142
  a38 := Try.isAgg142
  z38 := Try.sizeOf142
  v38 := Try.zeroValue142 }
end Go.Proofs
namespace Go.Proofs.Ytoenimkgagndnaa
set_option linter.unusedVariables false
set_option linter.unusedSimpArgs false
open Go.RowKit

theorem ret_u64 {a b : Int} (h : a = b) : Ending.returned (.int .u64 a) = .returned (.int .u64 b) := by rw [h]
theorem ret_i64 {a b : Int} (h : a = b) : Ending.returned (.int .i64 a) = .returned (.int .i64 b) := by rw [h]

theorem mag_neg (a : Int) (h0 : -9223372036854775808 ≤ a) (h : a < 0) : IntKind.u64.wrap (-IntKind.u64.wrap a) = (a.natAbs : Nat) := by
  rw [IntKind.wrap_u64, IntKind.wrap_u64]; omega

theorem mag_any (a : Int) (w : World) (h0 : -9223372036854775808 ≤ a) (h1 : a ≤ 9223372036854775807) :
    Calls Try.prog 53 #[.int .i64 a] w fun e w' => e = .returned (.int .u64 (a.natAbs : Nat)) ∧ w = w' := by
  by_cases h : a < 0
  · go_enter Try.func53, Try.ntmps53
    go_wp2
    go_ret
    exact ⟨ret_u64 (mag_neg a h0 h), rfl⟩
  · go_enter Try.func53, Try.ntmps53
    go_wp2
    go_ret
    exact ⟨ret_u64 (by omega), rfl⟩

theorem gcd_step (x y : Nat) : Nat.gcd y (x % y) = Nat.gcd x y := by rw [Nat.gcd_comm x y, Nat.gcd_rec y x, Nat.gcd_comm]

set_option maxHeartbeats 400000 in
theorem gcd_any (a b : Nat) (w : World) (ha : a ≤ 18446744073709551615) (hb : b ≤ 18446744073709551615) :
    Calls Try.prog 54 #[.int .u64 a, .int .u64 b] w fun e w' => e = .returned (.int .u64 (Nat.gcd a b : Nat)) ∧ ∃ n, w' = w.drewN n := by
  go_enter Try.func54, Try.ntmps54
  go_wp2
  go_loopw [0, 1] (fun s t wr => ∃ x y n : Nat, x ≤ 18446744073709551615 ∧ y ≤ 18446744073709551615 ∧ s = .int .u64 x ∧ t = .int .u64 y ∧ Hid (Nat.gcd x y = Nat.gcd a b) ∧ wr = w.drewN n) (fun _ t _ => (intOf t).toNat)
  case atStart => exact ⟨a, b, 0, ha, hb, rfl, rfl, rfl, rfl⟩
  case round =>
    obtain ⟨x, y, n, hx, hy, rfl, rfl, hg, rfl⟩ := hrel
    by_cases h : y = 0
    · subst h
      go_wp2
      go_ret
      exact ⟨ret_u64 (by have := hg.out; simp at this; omega), n, rfl⟩
    · have h0 : ((y : Int) == 0) = false := by simp; omega
      have h1 : ((y : Int) != 0) = true := by simp; omega
      go_wp2
      go_quiet (fail)
      go_wp2
      go_roundw
      case rel => exact ⟨y, x % y, n + nq, hy, by have := Nat.mod_le x y; omega, rfl, rfl, (gcd_step x y).trans hg.out, by rw [World.drewN_drewN]⟩
      case measure => simp [intOf]; exact Nat.mod_lt _ (by omega)

/-- -1, 0 or 1 as a is less than, equal to or greater than b. -/
def cmpZ (a b : Int) : Int := if a < b then -1 else if b < a then 1 else 0
theorem cmpZ_lt {a b : Int} (h : a < b) : cmpZ a b = -1 := by unfold cmpZ; rw [if_pos h]
theorem cmpZ_gt {a b : Int} (h : b < a) : cmpZ a b = 1 := by unfold cmpZ; rw [if_neg (by omega), if_pos h]
theorem cmpZ_eq {a b : Int} (h : a = b) : cmpZ a b = 0 := by unfold cmpZ; rw [if_neg (by omega), if_neg (by omega)]

theorem cmpZ_cases' (a b : Int) : (cmpZ a b = -1 ∧ a < b) ∨ (cmpZ a b = 0 ∧ a = b) ∨ (cmpZ a b = 1 ∧ b < a) := by
  unfold cmpZ; split
  · exact .inl ⟨rfl, by assumption⟩
  · split
    · exact .inr (.inr ⟨rfl, by assumption⟩)
    · exact .inr (.inl ⟨rfl, by omega⟩)

theorem cmpU_any (a b : Int) (w : World) (ha0 : 0 ≤ a) (ha : a ≤ 18446744073709551615) (hb0 : 0 ≤ b) (hb : b ≤ 18446744073709551615) :
    Calls Try.prog 110 #[.int .u64 a, .int .u64 b] w fun e w' => e = .returned (.int .i64 (cmpZ a b)) ∧ w = w' := by
  have hx : (a != a) = false := by simp
  have hy : (b != b) = false := by simp
  rcases Int.lt_trichotomy a b with h | h | h
  · go_enter Try.func110, Try.ntmps110
    go_wp2
    go_ret
    exact ⟨ret_i64 (cmpZ_lt (by omega)).symm, rfl⟩
  · subst h
    go_enter Try.func110, Try.ntmps110
    go_wp2
    go_ret
    exact ⟨ret_i64 (cmpZ_eq (by omega)).symm, rfl⟩
  · go_enter Try.func110, Try.ntmps110
    go_wp2
    go_ret
    exact ⟨ret_i64 (cmpZ_gt (by omega)).symm, rfl⟩

theorem cmpI_any (a b : Int) (w : World) :
    Calls Try.prog 94 #[.int .i64 a, .int .i64 b] w fun e w' => e = .returned (.int .i64 (cmpZ a b)) ∧ w = w' := by
  have hx : (a != a) = false := by simp
  have hy : (b != b) = false := by simp
  rcases Int.lt_trichotomy a b with h | h | h
  · go_enter Try.func94, Try.ntmps94
    go_wp2
    go_ret
    exact ⟨ret_i64 (cmpZ_lt (by omega)).symm, rfl⟩
  · subst h
    go_enter Try.func94, Try.ntmps94
    go_wp2
    go_ret
    exact ⟨ret_i64 (cmpZ_eq (by omega)).symm, rfl⟩
  · go_enter Try.func94, Try.ntmps94
    go_wp2
    go_ret
    exact ⟨ret_i64 (cmpZ_gt (by omega)).symm, rfl⟩

theorem mul_hi {x y : Int} (hx0 : 0 ≤ x) (hx : x ≤ 18446744073709551615) (hy0 : 0 ≤ y) (hy : y ≤ 18446744073709551615) : 0 ≤ x * y ∧ x * y ≤ 340282366920938463426481119284349108225 := by
  have h1 := Int.mul_nonneg hx0 hy0
  have h2 := Int.mul_le_mul hx hy hy0 (by omega : (0 : Int) ≤ 18446744073709551615)
  exact ⟨h1, by omega⟩

/-- product: the two halves of x·y. -/
theorem product_any (x y : Int) (w : World) (hx0 : 0 ≤ x) (hx : x ≤ 18446744073709551615) (hy0 : 0 ≤ y) (hy : y ≤ 18446744073709551615) :
    Calls Try.prog 95 #[.int .u64 x, .int .u64 y] w fun e w' => e = .returned (.agg #[.int .u64 (x * y / 18446744073709551616), .int .u64 (x * y % 18446744073709551616)]) ∧ Gro w w' := by
  obtain ⟨a, rfl⟩ := Int.eq_ofNat_of_zero_le hx0
  obtain ⟨b, rfl⟩ := Int.eq_ofNat_of_zero_le hy0
  have h1 := Try.bits_Mul64 a b (by omega) (by omega)
  have e1 : ((a * b / 18446744073709551616 : Nat) : Int) = (a : Int) * b / 18446744073709551616 := by simp
  have e2 : ((a * b % 18446744073709551616 : Nat) : Int) = (a : Int) * b % 18446744073709551616 := by simp
  rw [e1, e2] at h1
  have h2 := mul_hi hx0 hx hy0 hy
  have h3 : 0 ≤ (a : Int) * b / 18446744073709551616 ∧ (a : Int) * b / 18446744073709551616 ≤ 18446744073709551615 := by omega
  have h4 : 0 ≤ (a : Int) * b % 18446744073709551616 ∧ (a : Int) * b % 18446744073709551616 ≤ 18446744073709551615 := by omega
  clear e1 e2 h2
  generalize (a : Int) * b / 18446744073709551616 = p at *
  generalize (a : Int) * b % 18446744073709551616 = q at *
  have H := fun w => Lib.hid (h1 w)
  clear h1
  go_enter Try.func95, Try.ntmps95
  go_wp2_with (go_at_call 115; refine (H _).out.mono ?_; rintro e w' ⟨rfl, rfl⟩)
  exact bodyPost_ret (v := .agg #[.int .u64 p, .int .u64 q]) (by simp [results, Try.results95, go_sem]) rfl ⟨rfl, gro_alloc (gro_refl _) _⟩
end Go.Proofs.Ytoenimkgagndnaa
namespace Go.Proofs.Ytoenimkgagndnaa
set_option linter.unusedVariables false
set_option linter.unusedSimpArgs false
open Go.RowKit

theorem ret_bool {a b : Bool} (h : a = b) : Ending.returned (.bool a) = .returned (.bool b) := by rw [h]

theorem inRange_any (n a b : Int) (w : World) :
    Calls Try.prog 72 #[.int .i64 n, .int .i64 a, .int .i64 b] w fun e w' => e = .returned (.bool (decide (a ≤ n ∧ n ≤ b))) ∧ w = w' := by
  by_cases h1 : a ≤ n <;> by_cases h2 : n ≤ b
  all_goals
    go_enter Try.func72, Try.ntmps72
    go_wp2
    go_ret
    exact ⟨ret_bool (by simp [h1, h2]), rfl⟩

/-- The number hi·2^64 + lo. -/
def wv (hi lo : Int) : Int := hi * 18446744073709551616 + lo

theorem wcmp_any (a b c d : Int) (w : World) (ha0 : 0 ≤ a) (ha : a ≤ 18446744073709551615) (hb0 : 0 ≤ b) (hb : b ≤ 18446744073709551615) (hc0 : 0 ≤ c) (hc : c ≤ 18446744073709551615) (hd0 : 0 ≤ d) (hd : d ≤ 18446744073709551615) :
    Calls Try.prog 88 #[.agg #[.int .u64 a, .int .u64 b], .agg #[.int .u64 c, .int .u64 d]] w fun e w' => e = .returned (.int .i64 (cmpZ (wv a b) (wv c d))) ∧ Gro w w' := by
  by_cases h : a = c
  · subst h
    have e : cmpZ b d = cmpZ (wv a b) (wv a d) := by unfold cmpZ wv; split <;> split <;> (try split) <;> (try split) <;> omega
    have e0 : (a != a) = false := by simp
    have E := Lib.hid e
    clear e
    go_enter Try.func88, Try.ntmps88
    go_wp2_with (go_at_call 110; refine (cmpU_any _ _ _ hb0 hb hd0 hd).mono ?_; rintro e w' ⟨rfl, rfl⟩)
    go_ret
    exact ⟨ret_i64 E.out, gro_alloc (gro_alloc (gro_refl _) _) _⟩
  · have e : cmpZ a c = cmpZ (wv a b) (wv c d) := by unfold cmpZ wv; split <;> split <;> (try split) <;> (try split) <;> omega
    have e0 : (a != c) = true := by simp; omega
    have E := Lib.hid e
    clear e h
    go_enter Try.func88, Try.ntmps88
    go_wp2_with (go_at_call 110; refine (cmpU_any _ _ _ ha0 ha hc0 hc).mono ?_; rintro e w' ⟨rfl, rfl⟩)
    go_ret
    exact ⟨ret_i64 E.out, gro_alloc (gro_alloc (gro_refl _) _) _⟩

/-- A fraction that is valid. -/
def okF (n d : Int) : Prop := 1 ≤ d ∧ d ≤ 4611686018427387904 ∧ -4611686018427387904 ≤ n ∧ n ≤ 4611686018427387904 ∧ Int.gcd n d = 1
instance (n d : Int) : Decidable (okF n d) := by unfold okF; infer_instance
/-- What Check returns. -/
def ckF (n d : Int) : Int := if okF n d then 0 else 2
theorem ckF_bad {n d : Int} (h : ¬ okF n d) : ckF n d = 2 := by unfold ckF; rw [if_neg h]
theorem ckF_ok {n d : Int} (h : okF n d) : ckF n d = 0 := by unfold ckF; rw [if_pos h]

set_option maxHeartbeats 400000 in
theorem check_any (n d : Int) (w : World) (hn : -9223372036854775808 ≤ n) (hn' : n ≤ 9223372036854775807) (hd : -9223372036854775808 ≤ d) (hd' : d ≤ 9223372036854775807) :
    Calls Try.prog 20 #[.agg #[.int .i64 n, .int .i64 d]] w fun e w' => e = .returned (.int .i64 (ckF n d)) ∧ Gro w w' := by
  by_cases h1 : d < 1
  · go_enter Try.func20, Try.ntmps20
    go_wp2
    go_ret
    exact ⟨ret_i64 (ckF_bad (by unfold okF; omega)).symm, gro_alloc (gro_refl _) _⟩
  by_cases h2 : 4611686018427387904 < d
  · go_enter Try.func20, Try.ntmps20
    go_wp2
    go_ret
    exact ⟨ret_i64 (ckF_bad (by unfold okF; omega)).symm, gro_alloc (gro_refl _) _⟩
  by_cases h3 : n < -4611686018427387904
  · go_enter Try.func20, Try.ntmps20
    go_wp2
    go_ret
    exact ⟨ret_i64 (ckF_bad (by unfold okF; omega)).symm, gro_alloc (gro_refl _) _⟩
  by_cases h4 : 4611686018427387904 < n
  · go_enter Try.func20, Try.ntmps20
    go_wp2
    go_ret
    exact ⟨ret_i64 (ckF_bad (by unfold okF; omega)).symm, gro_alloc (gro_refl _) _⟩
  have hc := gcd_any n.natAbs d.natAbs
  have d1 : decide (4611686018427387904 < d) = false := by simpa using h2
  have d2 : decide (n < -4611686018427387904) = false := by simpa using h3
  have d3 : decide (4611686018427387904 < n) = false := by simpa using h4
  by_cases hg : Int.gcd n d = 1
  · have E := Lib.hid (ckF_ok (n := n) (d := d) ⟨by omega, by omega, by omega, by omega, hg⟩)
    have hq : (((Nat.gcd n.natAbs d.natAbs : Nat) : Int) != 1) = false := by
      have : Nat.gcd n.natAbs d.natAbs = 1 := hg
      simp [this]
    generalize Nat.gcd n.natAbs d.natAbs = g at *
    clear hg
    go_enter Try.func20, Try.ntmps20
    go_wp2
    go_quiet ((first | (go_at_call 53; exact qt_same (mag_any _ _ (by omega) (by omega))) | (go_at_call 54; exact Calls.quiet_of (hc _ (by omega) (by omega)))))
    go_wp2
    go_ret
    exact ⟨ret_i64 E.out.symm, gro_drewN (gro_alloc (gro_refl _) _) _⟩
  · have E := Lib.hid (ckF_bad (n := n) (d := d) (fun h => hg h.2.2.2.2))
    have hq : (((Nat.gcd n.natAbs d.natAbs : Nat) : Int) != 1) = true := by
      have : ¬ Nat.gcd n.natAbs d.natAbs = 1 := hg
      simp; omega
    generalize Nat.gcd n.natAbs d.natAbs = g at *
    clear hg
    go_enter Try.func20, Try.ntmps20
    go_wp2
    go_quiet ((first | (go_at_call 53; exact qt_same (mag_any _ _ (by omega) (by omega))) | (go_at_call 54; exact Calls.quiet_of (hc _ (by omega) (by omega)))))
    go_wp2
    go_ret
    exact ⟨ret_i64 E.out.symm, gro_drewN (gro_alloc (gro_refl _) _) _⟩
end Go.Proofs.Ytoenimkgagndnaa
