/- A region that draws its order, of operations that each yield a value of a kind and only make the memory grow: one walk serves for all orders. -/
import Derived.Test.YtoenimkgagndnaaCCalm
import Derived.Test.YtoenimkgagndnaaCHeld
namespace Go.Proofs.Ytoenimkgagndnaa
set_option linter.unusedVariables false
set_option linter.unusedSimpArgs false
open Go.RowKit Go.Lib

section
variable {P : Program} {ops : Array Oper} {Q : Exit → Act → World → Prop} {md : Region.Mode} {R : Nat → Value → Nat → Nat → World → Prop}

def dstOf (ops : Array Oper) (i : Nat) : Option Tmp := (ops[i]?).bind (·.dst)
/-- The frame behind some operations, whose values are told. -/
def putAll (ops : Array Oper) (a : Act) (val : Nat → Value) : List Nat → Act
  | [] => a
  | i :: l => putAll ops (a.put (dstOf ops i) (val i)) val l
/-- Operation j waits for operation i. -/
def waits (md : Region.Mode) (ops : Array Oper) (j i : Nat) : Bool := ((ops[j]?).map fun o => o.after.any fun e => Region.binds md e && e.on == i).getD false
def sameDst (ops : Array Oper) (i j : Nat) : Bool := match dstOf ops i with
  | some d => dstOf ops j == some d
  | none => false
def readsOf (ops : Array Oper) (j i : Nat) : Bool := match dstOf ops i, ops[j]? with
  | some d, some o => (o.looksAt ops).contains d
  | _, _ => false
/-- What is asked of the operations that come up first. -/
def relChk (md : Region.Mode) (ops : Array Oper) (L : List Nat) : Bool :=
  L.all (fun i => decide (i < ops.size)) && (L.all fun i => L.all fun j => i == j || !sameDst ops i j) && (L.all fun j => L.all fun i => i == j || waits md ops j i || !readsOf ops j i) &&
  ((List.range ops.size).all fun j => L.contains j || ((List.range ops.size).any fun k => !L.contains k && waits md ops j k) || L.all fun i => waits md ops j i || L.any fun k => waits md ops j k && (waits md ops k i || L.any fun l => waits md ops k l && waits md ops l i)) &&
  L.all fun j => ((ops[j]?).map fun o => o.after.all fun e => !Region.binds md e || (L.contains e.on && decide (e.on < j))).getD false

/-- What an operation's run yields: a value of the kind r, in a world that has grown. -/
def GiveM (P : Program) (r : Value → World → Prop) (w : World) : Result Next → Prop
  | .ok (.value u) w' => Below w.heap.size w w' ∧ r u w'
  | .ok .skip w' => Below w.heap.size w w' ∧ r undef w'
  | .ok (.enter f args) w' => Calls P f args w' fun e w'' => ∃ u, e = .returned u ∧ Below w.heap.size w w'' ∧ r u w''
  | .ok (.row row args) w' => Rows P row args w' fun u w'' => Below w.heap.size w w'' ∧ r u w''
  | _ => False
def GivesR (P : Program) (ops : Array Oper) (r : Value → World → Prop) (o : Oper) (a : Act) (w : World) : Prop :=
  (Region.wanted o (yielded ops a.tmps) = true ∧ GiveM P r w ((execOp a.eval o).run P w)) ∨ (Region.wanted o (yielded ops a.tmps) = false ∧ r undef w)

theorem GivesR.wpOp {r : Value → World → Prop} {o : Oper} {a : Act} {w : World} {j : Nat} (hj : ops[j]? = some o) (h : GivesR P ops r o a w) {K : Act → World → Prop} (hK : ∀ v w', Below w.heap.size w w' → r v w' → K (a.put o.dst v) w') : wpOp P ops Q j K a w := by
  unfold Go.wpOp
  simp only [hj]
  rcases h with ⟨hw, h⟩ | ⟨hw, h⟩
  · simp only [hw, if_true]
    refine .inl ?_
    unfold Oper.wp
    generalize (execOp a.eval o).run P w = q at *
    match q, h with
    | .ok (.value u) w', h => exact hK _ _ h.1 h.2
    | .ok .skip w', h => exact hK _ _ h.1 h.2
    | .ok (.enter f args) w', h =>
      simp only [Oper.upon]
      refine Calls.mono h fun e w'' he => ?_
      obtain ⟨u, rfl, h1, h2⟩ := he
      exact hK _ _ h1 h2
    | .ok (.row row args) w', h =>
      simp only [Oper.upon]
      exact Rows.mono h fun u w'' he => hK _ _ he.1 he.2
  · simp only [hw, Bool.false_eq_true, if_false]
    exact hK _ _ (Below.refl _ _) h

theorem GivesR.same {r : Value → World → Prop} {o : Oper} {a a' : Act} {w : World} (h : GivesR P ops r o a w) (he : execOp a'.eval o = execOp a.eval o) (hw : Region.wanted o (yielded ops a'.tmps) = Region.wanted o (yielded ops a.tmps)) : GivesR P ops r o a' w := by
  unfold GivesR at *
  rw [he, hw]
  exact h

/-- In the words of the walk: k stands for what follows. -/
theorem givesR_of {r : Value → World → Prop} {o : Oper} {a : Act} {w : World} (hd : inFrame o a = true)
    (h : ∀ (K : Act → World → Prop), Hid (∀ v w', Below w.heap.size w w' → r v w' → K (a.put o.dst v) w') → if Region.wanted o (yielded ops a.tmps) = true then Oper.wp P o a w K (fun _ _ _ => False) else K (a.put o.dst undef) w) (hdst : o.dst ≠ none) : GivesR P ops r o a w := by
  have hK := h (fun a' w' => ∃ v, a' = a.put o.dst v ∧ Below w.heap.size w w' ∧ r v w') (fun v w' h1 h2 => ⟨v, rfl, h1, h2⟩)
  have inj : ∀ {u v}, a.put o.dst u = a.put o.dst v → u = v := fun hp => (put_inj hd hp).resolve_left hdst
  by_cases hw : Region.wanted o (yielded ops a.tmps) = true
  · rw [if_pos hw] at hK
    refine .inl ⟨hw, ?_⟩
    unfold Oper.wp at hK
    generalize (execOp a.eval o).run P w = q at *
    match q, hK with
    | .ok (.value u) w', hK => obtain ⟨v, h1, h2, h3⟩ := hK; rw [inj h1]; exact ⟨h2, h3⟩
    | .ok .skip w', hK => obtain ⟨v, h1, h2, h3⟩ := hK; exact ⟨h2, (inj h1).symm ▸ h3⟩
    | .ok (.enter f args) w', hK =>
      refine Calls.mono hK fun e w'' he => ?_
      cases e with
      | returned u => obtain ⟨v, h1, h2, h3⟩ := he; exact ⟨u, rfl, h2, by rw [inj h1]; exact h3⟩
      | panicked c => exact he.elim
      | outgrown => obtain ⟨_, _, h⟩ := (he : LetsOut _); exact h.elim
    | .ok (.row row args) w', hK => exact Rows.mono hK fun u w'' he => by obtain ⟨v, h1, h2, h3⟩ := he; rw [inj h1]; exact ⟨h2, h3⟩
    | .ok (.defer d) w', hK =>
      obtain ⟨v, h1, _⟩ := hK
      have := congrArg (fun b : Act => b.defers.length) h1
      cases hdst : o.dst <;> simp [Act.put, hdst] at this
    | .halt (.panic v) w', hK => exact hK.elim
  · rw [if_neg hw] at hK
    obtain ⟨v, h1, _, h3⟩ := hK
    refine .inr ⟨by simpa using hw, ?_⟩
    rw [inj h1]
    exact h3

theorem putAll_put (a : Act) (val : Nat → Value) (d : Option Tmp) (v : Value) : ∀ (l : List Nat), (∀ i ∈ l, ∀ t, d = some t → dstOf ops i ≠ some t) → putAll ops (a.put d v) val l = (putAll ops a val l).put d v
  | [], _ => rfl
  | i :: l, h => by
    show putAll ops ((a.put d v).put (dstOf ops i) (val i)) val l = (putAll ops (a.put (dstOf ops i) (val i)) val l).put d v
    rw [Act.put_comm a v (val i) (fun t ht => h i (by simp) t ht)]
    exact putAll_put (a.put (dstOf ops i) (val i)) val d v l (fun x hx => h x (by simp [hx]))
theorem putAll_upd (a : Act) (val : Nat → Value) (j : Nat) (v : Value) : ∀ (l : List Nat), j ∉ l → putAll ops a (fun i => if i = j then v else val i) l = putAll ops a val l
  | [], _ => rfl
  | i :: l, h => by
    simp only [List.mem_cons, not_or] at h
    show putAll ops (a.put _ (if i = j then v else val i)) _ l = putAll ops (a.put _ (val i)) val l
    rw [if_neg (Ne.symm h.1)]
    exact putAll_upd _ val j v l h.2
theorem putAll_append (a : Act) (val : Nat → Value) (l1 l2 : List Nat) : putAll ops a val (l1 ++ l2) = putAll ops (putAll ops a val l1) val l2 := by
  induction l1 generalizing a with
  | nil => rfl
  | cons i l ih => exact ih _
theorem putAll_insert (a : Act) (val : Nat → Value) (j : Nat) (v : Value) (l1 l2 : List Nat) (h1 : j ∉ l1) (h2 : j ∉ l2) (hd : ∀ i ∈ l2, ∀ t, dstOf ops j = some t → dstOf ops i ≠ some t) :
    (putAll ops a val (l1 ++ l2)).put (dstOf ops j) v = putAll ops a (fun i => if i = j then v else val i) (l1 ++ j :: l2) := by
  rw [putAll_append, putAll_append, putAll_upd _ _ _ _ l1 h1]
  show _ = putAll ops ((putAll ops a val l1).put (dstOf ops j) (if j = j then v else val j)) _ l2
  rw [if_pos rfl, putAll_upd _ _ _ _ l2 h2, putAll_put _ _ _ _ l2 hd]

/-- An operation sees of the frame only what it reads. -/
theorem exec_filter (o : Oper) (hs : ∀ cs b, o.op ≠ .select cs b) (val : Nat → Value) (p : Nat → Bool) : ∀ (l : List Nat) (a : Act),
    (∀ i ∈ l, ∀ j ∈ l, i ≠ j → ∀ t, dstOf ops i = some t → dstOf ops j ≠ some t) → l.Nodup → (∀ i ∈ l, p i = false → ∀ t, dstOf ops i = some t → t ∉ o.looksAt ops) →
    execOp (putAll ops a val l).eval o = execOp (putAll ops a val (l.filter p)).eval o ∧ Region.wanted o (yielded ops (putAll ops a val l).tmps) = Region.wanted o (yielded ops (putAll ops a val (l.filter p)).tmps)
  | [], a, _, _, _ => ⟨rfl, rfl⟩
  | i :: l, a, hd, hn, hp => by
    have hn' := List.nodup_cons.1 hn
    have hd' : ∀ x ∈ l, ∀ j ∈ l, x ≠ j → ∀ t, dstOf ops x = some t → dstOf ops j ≠ some t := fun x hx j hj => hd x (by simp [hx]) j (by simp [hj])
    have hp' : ∀ x ∈ l, p x = false → ∀ t, dstOf ops x = some t → t ∉ o.looksAt ops := fun x hx => hp x (by simp [hx])
    cases hpi : p i with
    | true =>
      rw [List.filter_cons_of_pos (by simpa using hpi)]
      exact exec_filter o hs val p l _ hd' hn'.2 hp'
    | false =>
      rw [List.filter_cons_of_neg (by simp [hpi])]
      show execOp (putAll ops (a.put (dstOf ops i) (val i)) val l).eval o = _ ∧ Region.wanted o (yielded ops (putAll ops (a.put (dstOf ops i) (val i)) val l).tmps) = _
      rw [putAll_put _ _ _ _ l (fun x hx t ht => hd i (by simp) x (by simp [hx]) (fun e => hn'.1 (e ▸ hx)) t ht)]
      have ih := exec_filter o hs val p l a hd' hn'.2 hp'
      rw [execOp_put o hs _ _ _ (fun t ht => hp i (by simp) hpi t ht), wanted_put o _ _ _ (fun t ht => hp i (by simp) hpi t ht)]
      exact ih

structure RelOk (md : Region.Mode) (ops : Array Oper) (L : List Nat) : Prop where
  lt : ∀ i ∈ L, i < ops.size
  dst : ∀ i ∈ L, ∀ j ∈ L, i ≠ j → ∀ t, dstOf ops i = some t → dstOf ops j ≠ some t
  reads : ∀ j ∈ L, ∀ i ∈ L, i ≠ j → waits md ops j i = false → ∀ o, ops[j]? = some o → ∀ t, dstOf ops i = some t → t ∉ o.looksAt ops
  tail : ∀ j, j < ops.size → j ∉ L → (∃ k, k < ops.size ∧ k ∉ L ∧ waits md ops j k = true) ∨ ∀ i ∈ L, waits md ops j i = true ∨ ∃ k ∈ L, waits md ops j k = true ∧ (waits md ops k i = true ∨ ∃ l ∈ L, waits md ops k l = true ∧ waits md ops l i = true)
  early : ∀ j ∈ L, ∀ o, ops[j]? = some o → ∀ e ∈ o.after, Region.binds md e = true → e.on ∈ L ∧ e.on < j
theorem relOk_of {L : List Nat} (h : relChk md ops L = true) : RelOk md ops L := by
  unfold relChk at h
  simp only [Bool.and_eq_true, List.all_eq_true, List.any_eq_true, decide_eq_true_eq, Bool.or_eq_true, beq_iff_eq, Bool.not_eq_true', List.mem_range, List.contains_iff_mem] at h
  obtain ⟨⟨⟨⟨h1, h2⟩, h3⟩, h4⟩, h5⟩ := h
  refine ⟨h1, fun i hi j hj hne t ht ht' => ?_, fun j hj i hi hne hw o ho t ht hm => ?_, fun j hj hn => (h4 j hj).elim (fun h => (h.resolve_left hn).elim fun k hk => .inl ⟨k, hk.1, by simpa using hk.2.1, hk.2.2⟩) .inr, fun j hj o ho e he hb => ?_⟩
  · have := (h2 i hi j hj).resolve_left hne
    unfold sameDst at this
    rw [ht] at this
    simp [ht'] at this
  · rcases h3 j hj i hi with (h | h) | h
    · exact hne h
    · rw [hw] at h; cases h
    · unfold readsOf at h
      rw [ht, ho] at h
      simp only at h
      rw [← Bool.not_eq_true, List.contains_iff_mem] at h
      exact h hm
  · have := h5 j hj
    rw [ho] at this
    simp only [Option.map_some, Option.getD_some, Array.all_eq_true_iff_forall_mem, Bool.or_eq_true, Bool.not_eq_true', Bool.and_eq_true, decide_eq_true_eq] at this
    rcases this e he with h | h
    · rw [hb] at h; cases h
    · exact ⟨List.contains_iff_mem.1 h.1, h.2⟩

/-- Which operations have come up. -/
def marks (n : Nat) (l : List Nat) : Array Bool := l.foldl (fun a i => a.setIfInBounds i true) (Array.replicate n false)
theorem marks_get (n : Nat) (l : List Nat) (i : Nat) (hi : i < n) : (marks n l)[i]? = some (decide (i ∈ l)) := by
  have key : ∀ (l : List Nat) (a : Array Bool), a.size = n → (l.foldl (fun a i => a.setIfInBounds i true) a).size = n ∧ (l.foldl (fun a i => a.setIfInBounds i true) a)[i]? = if i ∈ l then some true else a[i]? := by
    intro l
    induction l with
    | nil => intro a ha; exact ⟨ha, by simp⟩
    | cons j l ih =>
      intro a ha
      obtain ⟨h1, h2⟩ := ih (a.setIfInBounds j true) (by simpa using ha)
      refine ⟨h1, ?_⟩
      simp only [List.foldl_cons]
      rw [h2]
      by_cases hl : i ∈ l
      · simp [hl]
      · by_cases hij : i = j
        · subst hij
          simp [hl, ha, hi]
        · simp [hl, hij, Array.getElem?_setIfInBounds_ne (Ne.symm hij)]
  have := (key l (Array.replicate n false) (by simp)).2
  unfold marks
  rw [this]
  by_cases h : i ∈ l <;> simp [h, hi]
theorem marks_size (n : Nat) (l : List Nat) : (marks n l).size = n := by
  unfold marks
  have : ∀ (l : List Nat) (a : Array Bool), (l.foldl (fun a i => a.setIfInBounds i true) a).size = a.size := by
    intro l
    induction l with
    | nil => intro a; rfl
    | cons j l ih => intro a; simp only [List.foldl_cons]; rw [ih]; simp
  rw [this]; simp
theorem marks_same {n : Nat} {l l' : List Nat} (h : ∀ i, i < n → (i ∈ l ↔ i ∈ l')) : marks n l = marks n l' := by
  apply Array.ext
  · rw [marks_size, marks_size]
  · intro i h1 h2
    rw [marks_size] at h1
    have a := marks_get n l i h1
    have b := marks_get n l' i h1
    rw [Array.getElem?_eq_getElem (by rw [marks_size]; exact h1)] at a b
    simp only [Option.some.injEq] at a b
    rw [a, b]
    simp [h i h1]
theorem marks_set {n : Nat} (l : List Nat) (j : Nat) : (marks n l).setIfInBounds j true = marks n (l ++ [j]) := by
  unfold marks
  rw [List.foldl_append]
  rfl

theorem rel_all (hsel : ∀ (j : Nat) (o : Oper) cs b, ops[j]? = some o → o.op ≠ .select cs b) {L : List Nat} (hL : L.Nodup) (ok : RelOk md ops L) {a0 : Act} {w0 : World}
    (hR : ∀ i ∈ L, ∀ v lo hi w w', R i v lo hi w → Below w.heap.size w w' → R i v lo hi w')
    (hob : ∀ j ∈ L, ∀ o, ops[j]? = some o → ∀ w val (lo hi : Nat → Nat), Below w0.heap.size w0 w → (∀ i ∈ L, waits md ops j i = true → R i (val i) (lo i) (hi i) w) → GivesR P ops (fun v w' => R j v w.heap.size w'.heap.size w') o (putAll ops a0 val (L.filter fun i => waits md ops j i)) w)
    {m : Nat} (hfin : ∀ w val (lo hi : Nat → Nat), Below w0.heap.size w0 w → (∀ i ∈ L, R i (val i) (lo i) (hi i) w) → (∀ i ∈ L, ∀ j ∈ L, i ≠ j → hi i ≤ lo j ∨ hi j ≤ lo i) → wpAny P md ops Q m (marks ops.size L) (putAll ops a0 val L) w) :
    ∀ (k : Nat) (p : Nat → Bool) (val : Nat → Value) (lo hi : Nat → Nat) (w : World), (L.filter fun i => !p i).length = k → (∀ x ∈ L, p x = true → ∀ i ∈ L, waits md ops x i = true → p i = true) → Below w0.heap.size w0 w → (∀ i ∈ L, p i = true → R i (val i) (lo i) (hi i) w ∧ hi i ≤ w.heap.size) →
      (∀ i ∈ L, ∀ j ∈ L, p i = true → p j = true → i ≠ j → hi i ≤ lo j ∨ hi j ≤ lo i) →
      wpAny P md ops Q (m + k) (marks ops.size (L.filter p)) (putAll ops a0 val (L.filter p)) w
  | 0, p, val, lo, hi, w, hk, hcl, hb, hv, hd => by
    have hall : ∀ i ∈ L, p i = true := fun i hi => by
      cases h : p i with
      | true => rfl
      | false =>
        have : i ∈ L.filter fun i => !p i := List.mem_filter.2 ⟨hi, by simp [h]⟩
        rw [List.length_eq_zero_iff.1 hk] at this
        cases this
    rw [List.filter_eq_self.2 hall]
    exact hfin w val lo hi hb (fun i hi => (hv i hi (hall i hi)).1) (fun i hi j hj hne => hd i hi j hj (hall i hi) (hall j hj) hne)
  | k + 1, p, val, lo, hi, w, hk, hcl, hb, hv, hd => by
    have hget : ∀ i, i < ops.size → (marks ops.size (L.filter p)).getD i true = decide (i ∈ L.filter p) := fun i hi => by
      rw [Array.getD_eq_getD_getElem?, marks_get _ _ _ hi]
      rfl
    refine ⟨fun hr => ?_, fun j hj => ?_⟩
    · -- the least of those that have not come up is ready
      exfalso
      have hex : ∃ i, i ∈ L ∧ p i = false := by
        have : (L.filter fun i => !p i) ≠ [] := fun h => by rw [h] at hk; cases hk
        obtain ⟨i, hi⟩ := List.exists_mem_of_ne_nil _ this
        have := List.mem_filter.1 hi
        exact ⟨i, this.1, by simpa using this.2⟩
      have hmin : ∀ n, ∀ i, i < n → i ∈ L → p i = false → ∃ i, i ∈ L ∧ p i = false ∧ ∀ x, x ∈ L → x < i → p x = true := by
        intro n
        induction n with
        | zero => intro i hi; omega
        | succ n ih =>
          intro i hi hiL hpi
          by_cases hx : ∃ x, x ∈ L ∧ x < i ∧ p x = false
          · obtain ⟨x, h1, h2, h3⟩ := hx
            exact ih x (by omega) h1 h3
          · refine ⟨i, hiL, hpi, fun x h1 h2 => ?_⟩
            cases h : p x with
            | true => rfl
            | false => exact absurd ⟨x, h1, h2, h⟩ hx
      obtain ⟨i0, h0, h0'⟩ := hex
      obtain ⟨i, hiL, hpi, hlow⟩ := hmin (i0 + 1) i0 (by omega) h0 h0'
      have hlt := ok.lt i hiL
      have : i ∈ Region.ready md ops (marks ops.size (L.filter p)) := by
        rw [mem_ready]
        refine ⟨?_, ops[i], Array.getElem?_eq_getElem hlt, fun e he hbd => ?_⟩
        · rw [hget i hlt]
          simp [List.mem_filter, hpi]
        · obtain ⟨e1, e2⟩ := ok.early i hiL _ (Array.getElem?_eq_getElem hlt) e he hbd
          rw [Array.getD_eq_getD_getElem?, marks_get _ _ _ (ok.lt _ e1)]
          simp [List.mem_filter, e1, hlow _ e1 e2]
      rw [hr] at this
      cases this
    · obtain ⟨hjun, o, hoj, hall⟩ := mem_ready.1 hj
      have hjlt : j < ops.size := (Array.getElem?_eq_some_iff.1 hoj).1
      rw [hget j hjlt, decide_eq_false_iff_not] at hjun
      have hdone : ∀ i ∈ L, waits md ops j i = true → p i = true := fun i hi hw => by
        unfold waits at hw
        rw [hoj] at hw
        simp only [Option.map_some, Option.getD_some] at hw
        obtain ⟨e, he, hbe⟩ := Array.any_eq_true'.1 hw
        simp only [Bool.and_eq_true, beq_iff_eq] at hbe
        have := hall e he hbe.1
        rw [hbe.2, Array.getD_eq_getD_getElem?, marks_get _ _ _ (ok.lt i hi)] at this
        simpa [List.mem_filter, hi] using this
      have hjL : j ∈ L := by
        by_cases h : j ∈ L
        · exact h
        · exfalso
          have hex : ∃ i, i ∈ L ∧ p i = false := by
            have : (L.filter fun i => !p i) ≠ [] := fun h => by rw [h] at hk; cases hk
            obtain ⟨i, hi⟩ := List.exists_mem_of_ne_nil _ this
            have := List.mem_filter.1 hi
            exact ⟨i, this.1, by simpa using this.2⟩
          obtain ⟨i, hi, hpi⟩ := hex
          have htl := (ok.tail j hjlt h).resolve_left (fun ⟨k, hk, hkL, hw⟩ => by
            unfold waits at hw
            rw [hoj] at hw
            simp only [Option.map_some, Option.getD_some] at hw
            obtain ⟨e, he, hbe⟩ := Array.any_eq_true'.1 hw
            simp only [Bool.and_eq_true, beq_iff_eq] at hbe
            have := hall e he hbe.1
            rw [hbe.2, Array.getD_eq_getD_getElem?, marks_get _ _ _ hk] at this
            simp [List.mem_filter, hkL] at this)
          have : p i = true := by
            rcases htl i hi with h1 | ⟨x, hx, h1, h2 | ⟨y, hy, h2, h3⟩⟩
            · exact hdone i hi h1
            · exact hcl x hx (hdone x hx h1) i hi h2
            · exact hcl y hy (hcl x hx (hdone x hx h1) y hy h2) i hi h3
          rw [hpi] at this
          cases this
      have hpj : p j = false := by
        cases h : p j with
        | false => rfl
        | true => exact absurd (List.mem_filter.2 ⟨hjL, h⟩) hjun
      have hg := hob j hjL o hoj w val lo hi hb fun i hi hw => (hv i hi (hdone i hi hw)).1
      -- the frame at hand and the one that holds just what j waits for
      have hfe : (L.filter p).filter (fun i => waits md ops j i) = L.filter fun i => waits md ops j i := by
        rw [List.filter_filter]
        refine List.filter_congr fun i hi => ?_
        cases h : waits md ops j i with
        | false => simp
        | true => simp [hdone i hi h]
      have hx := exec_filter (ops := ops) o (fun cs b => hsel j o cs b hoj) val (fun i => waits md ops j i) (L.filter p) a0
        (fun i hi x hx => ok.dst i (List.mem_filter.1 hi).1 x (List.mem_filter.1 hx).1) (hL.sublist List.filter_sublist)
        (fun i hi hw t ht => ok.reads j hjL i (List.mem_filter.1 hi).1 (fun e => by rw [e] at hi; exact hjun hi) hw o hoj t ht)
      rw [hfe] at hx
      refine GivesR.wpOp hoj (hg.same hx.1 hx.2) fun v w' hbw hrv => ?_
      -- L parted at j
      obtain ⟨l1, l2, hl⟩ := List.append_of_mem hjL
      have hn := hL
      rw [hl] at hn
      have hn2 := List.nodup_append.1 hn
      have j1 : j ∉ l1 := fun h => hn2.2.2 j h j (by simp) rfl
      have j2 : j ∉ l2 := (List.nodup_cons.1 hn2.2.1).1
      have hdj : o.dst = dstOf ops j := by unfold dstOf; rw [hoj]; rfl
      have f1 : L.filter p = l1.filter p ++ l2.filter p := by rw [hl, List.filter_append, List.filter_cons_of_neg (by simp [hpj])]
      have f2 : (L.filter fun i => p i || i == j) = l1.filter p ++ j :: l2.filter p := by
        rw [hl, List.filter_append, List.filter_cons_of_pos (by simp)]
        congr 1
        · exact List.filter_congr fun i hi => by
            have : i ≠ j := fun e => j1 (e ▸ hi)
            simp [this]
        · congr 1
          exact List.filter_congr fun i hi => by
            have : i ≠ j := fun e => j2 (e ▸ hi)
            simp [this]
      have hput : (putAll ops a0 val (L.filter p)).put o.dst v = putAll ops a0 (fun i => if i = j then v else val i) (L.filter fun i => p i || i == j) := by
        rw [hdj, f1, f2]
        refine putAll_insert a0 val j v _ _ (fun h => j1 (List.mem_filter.1 h).1) (fun h => j2 (List.mem_filter.1 h).1) fun i hi t ht => ?_
        have hi2 := (List.mem_filter.1 hi).1
        exact ok.dst j hjL i (by rw [hl]; simp [hi2]) (fun e => j2 (e ▸ hi2)) t ht
      have hmk : (marks ops.size (L.filter p)).setIfInBounds j true = marks ops.size (L.filter fun i => p i || i == j) := by
        rw [marks_set]
        refine marks_same fun i _ => ?_
        rw [f1, f2]
        simp only [List.mem_append, List.mem_cons, List.mem_singleton]
        constructor
        · rintro ((h | h) | h)
          · exact .inl h
          · exact .inr (.inr h)
          · exact .inr (.inl (by simpa using h))
        · rintro (h | h | h)
          · exact .inl (.inl h)
          · exact .inr (by simpa using h)
          · exact .inl (.inr h)
      rw [hput, hmk]
      refine rel_all hsel hL ok hR hob hfin k (fun i => p i || i == j) _ (fun i => if i = j then w.heap.size else lo i) (fun i => if i = j then w'.heap.size else hi i) w' ?_ ?_ (hb.trans (hbw.mono hb.size)) ?_ ?_
      · have e1 : (L.filter fun i => !p i) = (l1.filter fun i => !p i) ++ j :: (l2.filter fun i => !p i) := by rw [hl, List.filter_append, List.filter_cons_of_pos (by simp [hpj])]
        have e2 : (L.filter fun i => !(p i || i == j)) = (l1.filter fun i => !p i) ++ (l2.filter fun i => !p i) := by
          rw [hl, List.filter_append, List.filter_cons_of_neg (by simp)]
          congr 1
          · exact List.filter_congr fun i hi => by
              have : i ≠ j := fun e => j1 (e ▸ hi)
              simp [this]
          · exact List.filter_congr fun i hi => by
              have : i ≠ j := fun e => j2 (e ▸ hi)
              simp [this]
        rw [e1] at hk
        rw [e2]
        simp only [List.length_append, List.length_cons] at hk ⊢
        omega
      · intro x hx hpx i hi' hw
        by_cases e : x = j
        · rw [e] at hw
          simp [hdone i hi' hw]
        · have : p x = true := by simpa [e] using hpx
          simp [hcl x hx this i hi' hw]
      · intro i hi' hpi
        by_cases e : i = j
        · subst e
          simp only [if_pos rfl]
          exact ⟨hrv, Nat.le_refl _⟩
        · simp only [if_neg e]
          have : p i = true := by simpa [e] using hpi
          have hvi := hv i hi' this
          exact ⟨hR i hi' _ _ _ _ _ hvi.1 hbw, Nat.le_trans hvi.2 hbw.size⟩
      · intro i hi' x hx' hpi hpx hne
        have hp : ∀ y, y ≠ j → (p y || y == j) = true → p y = true := fun y hy h => by simpa [hy] using h
        by_cases e : i = j
        · have e' : x ≠ j := fun h => hne (e.trans h.symm)
          simp only [if_pos e, if_neg e']
          exact .inr (hv x hx' (hp x e' hpx)).2
        · by_cases e' : x = j
          · simp only [if_neg e, if_pos e']
            exact .inl (hv i hi' (hp i e hpi)).2
          · simp only [if_neg e, if_neg e']
            exact hd i hi' x hx' (hp i e hpi) (hp x e' hpx) hne

/-- The beginning. -/
theorem wp_region_rel (L : List Nat) (R : Nat → Value → Nat → Nat → World → Prop) {id : Nat} {a : Act} {w : World} (hm : P.follows .mixedOrders = true) (hs : Region.noSelect ops = true) (hc : relChk .any ops L = true) (hL : L.Nodup) (hlen : L.length ≤ ops.size)
    (hR : ∀ i ∈ L, ∀ v lo hi w w', R i v lo hi w → Below w.heap.size w w' → R i v lo hi w')
    (hob : ∀ j ∈ L, ∀ o tl, ops.toList.drop j = o :: tl → ∀ w1 val (lo hi : Nat → Nat), Below w.heap.size w w1 → (∀ i ∈ L, waits .any ops j i = true → R i (val i) (lo i) (hi i) w1) → GivesR P ops (fun v w' => R j v w1.heap.size w'.heap.size w') o (putAll ops a val (L.filter fun i => waits .any ops j i)) w1)
    (hfin : ∀ w' val (lo hi : Nat → Nat), Below w.heap.size w w' → (∀ i ∈ L, R i (val i) (lo i) (hi i) w') → (∀ i ∈ L, ∀ j ∈ L, i ≠ j → hi i ≤ lo j ∨ hi j ≤ lo i) → wpAnyH P .any ops Q (fun _ => True) (ops.size - L.length) (marks ops.size L) (putAll ops a val L) w') : (Code.region id ops true).wp P Q a w := by
  refine wp_region_any hm ?_
  have hob' : ∀ j ∈ L, ∀ o, ops[j]? = some o → ∀ w1 val (lo hi : Nat → Nat), Below w.heap.size w w1 → (∀ i ∈ L, waits .any ops j i = true → R i (val i) (lo i) (hi i) w1) → GivesR P ops (fun v w' => R j v w1.heap.size w'.heap.size w') o (putAll ops a val (L.filter fun i => waits .any ops j i)) w1 := by
    intro j hj o ho
    have hlt : j < ops.toList.length := by
      have := (Array.getElem?_eq_some_iff.1 ho).1
      simpa using this
    refine hob j hj o (ops.toList.drop (j + 1)) ?_
    rw [List.drop_eq_getElem_cons hlt]
    congr 1
    have : ops.toList[j]? = some o := by rw [Array.getElem?_toList]; exact ho
    rw [List.getElem?_eq_getElem hlt] at this
    exact Option.some.inj this
  have := rel_all (Region.noSelect_spec hs) hL (relOk_of hc) hR hob' (fun w' val lo hi h1 h2 h3 => wpAny_of_held _ _ _ _ (hfin w' val lo hi h1 h2 h3)) L.length (fun _ => false) (fun _ => undef) (fun _ => 0) (fun _ => 0) w.drew (by simp) (fun i _ h => by cases h) (Below.refl _ _).drew (fun i _ h => by cases h) (fun i _ j _ h => by cases h)
  rw [show ops.size - L.length + L.length = ops.size by omega, show L.filter (fun _ => false) = [] by simp] at this
  exact this

/-- The same, with what each operation waits for told. -/
theorem wp_region_told (L : List Nat) (D : List (List Nat)) (R : Nat → Value → Nat → Nat → World → Prop) {id : Nat} {a : Act} {w : World} (hm : P.follows .mixedOrders = true) (hs : Region.noSelect ops = true) (hc : relChk .any ops L = true) (hL : L.Nodup) (hlen : L.length ≤ ops.size)
    (hD : (L.all fun j => (L.filter fun i => waits .any ops j i) == D.getD j []) = true)
    (hR : ∀ i ∈ L, ∀ v lo hi w w', R i v lo hi w → Below w.heap.size w w' → R i v lo hi w')
    (hob : ∀ j ∈ L, ∀ o tl, ops.toList.drop j = o :: tl → ∀ w1 val (lo hi : Nat → Nat), Below w.heap.size w w1 → (∀ i ∈ D.getD j [], R i (val i) (lo i) (hi i) w1) → GivesR P ops (fun v w' => R j v w1.heap.size w'.heap.size w') o (putAll ops a val (D.getD j [])) w1)
    (hfin : ∀ w' val (lo hi : Nat → Nat), Below w.heap.size w w' → (∀ i ∈ L, R i (val i) (lo i) (hi i) w') → (∀ i ∈ L, ∀ j ∈ L, i ≠ j → hi i ≤ lo j ∨ hi j ≤ lo i) → wpAnyH P .any ops Q (fun _ => True) (ops.size - L.length) (marks ops.size L) (putAll ops a val L) w') : (Code.region id ops true).wp P Q a w := by
  refine wp_region_rel L R hm hs hc hL hlen hR (fun j hj o tl ho w1 val lo hi hb hv => ?_) hfin
  have hj' : (L.filter fun i => waits .any ops j i) = D.getD j [] := by
    have := List.all_eq_true.1 hD j hj
    simpa using this
  rw [hj']
  refine hob j hj o tl ho w1 val lo hi hb fun i hi => ?_
  rw [← hj'] at hi
  exact hv i (List.mem_filter.1 hi).1 (List.mem_filter.1 hi).2
end
end Go.Proofs.Ytoenimkgagndnaa
