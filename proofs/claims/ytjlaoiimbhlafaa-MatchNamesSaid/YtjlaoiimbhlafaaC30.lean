import Derived.Test.YtjlaoiimbhlafaaC29
import Derived.Deep.AppendLies
import Derived.Laws.EntriesVeiled
set_option linter.unusedVariables false
set_option linter.unusedSimpArgs false
namespace Go.Proofs.Ytjlaoiimbhlafaa
open Go.RowKit Go.Shelf

open MW
attribute [local go_sem] Oper.semAt_some run_store_func
theorem Box.whole {W : World} {b : Nat} {vs : List Value} {T : TypeId} {n : Nat} (h : vs.length = n) : (vs.drop 0).take n = vs := by rw [List.drop_zero, List.take_of_length_le (by omega)]
theorem exec_storeBox {P : Program} {old vs : List Value} {T ty : TypeId} {x y : Operand} {g n : Nat} {o : Oper} {ρ : Operand → Value} {W : World} (hr : rowOf P ty n = true) (hn : vs.length = n) (hold : old.length = n) (h1 : vs.all (·.oneCell') = true) (hg : Box W g old T)
    (ho : o.op = .store ty x y) (hx : ρ x = .pointer (some ⟨g, 0, none⟩)) (hy : ρ y = .agg vs.toArray) : (execOp ρ o).run P W = .ok .skip (W.setRow g vs.toArray) := by
  obtain ⟨d, -, -, hi⟩ := rowOf.parts hr
  unfold execOp
  simp only [ho, hx, hy, Instr.storeAt, Instr.sureAddr, Sem.run_bind, Sem.run_pure, Result.andThen_ok, run_storeVar_row W g T ty old.toArray vs.toArray hg (by simpa [hn] using hi) (by simp [hn, hold]) (by simpa using h1)]
theorem wpListIn_stopStore {F : Fence} {m : Nat} {P : Program} {ops : Array Oper} {rest : List Oper} {o : Oper} {a : Act} {w : World} {Q : Exit → Act → World → Prop} {ty : TypeId} {x y : Operand} (_ : o.op = .store ty x y) (h : Stop (wpListIn F m P ops Q (o :: rest) a w)) : wpListIn F m P ops Q (o :: rest) a w := h
theorem wpListIn_storeBox {F : Fence} {m : Nat} {P : Program} {ops : Array Oper} {rest : List Oper} {o : Oper} {a : Act} {w : World} {Q : Exit → Act → World → Prop} {old vs : List Value} {T ty : TypeId} {x y : Operand} {g n : Nat} (hr : rowOf P ty n = true) (hn : vs.length = n) (hold : old.length = n) (h1 : vs.all (·.oneCell') = true) (hg : Box w g old T)
    (ho : o.op = .store ty x y) (hgd : o.guard = none) (hx : a.eval x = .pointer (some ⟨g, 0, none⟩)) (hy : a.eval y = .agg vs.toArray)
    (h : wpListIn F m P ops Q rest (a.put o.dst undef) (w.setRow g vs.toArray)) : wpListIn F m P ops Q (o :: rest) a w := by
  refine wpListIn_plain hgd fun K hK => ⟨fun f hf => by simp [Oper.about, ho] at hf, ?_⟩
  rw [Oper.semAt_eq _ _ _ (fun c => by rw [ho]; exact fun h => by cases h), exec_storeBox hr hn hold h1 hg ho hx hy]
  exact hK _ _ h
/-! The search for the first way. -/
theorem rev_ind {α : Type} {P : List α → Prop} (h0 : P []) (h1 : ∀ l x, P l → P (l ++ [x])) (l : List α) : P l := by
  have : ∀ l : List α, P l.reverse := by
    intro l
    induction l with
    | nil => exact h0
    | cons x l ih => rw [List.reverse_cons]; exact h1 _ _ ih
  rw [← List.reverse_reverse l]
  exact this _
def pv (x : Nat × Nat) : List Value := [.int .i64 x.1, .int .i64 x.2]
def keepM (m : Nat → Nat) (ps : List (Nat × Nat)) : Nat → Nat := ps.foldl (fun m x => onlM m x.1 x.2) m
theorem keepM_snoc (m : Nat → Nat) (ps : List (Nat × Nat)) (x : Nat × Nat) : keepM m (ps ++ [x]) = onlM (keepM m ps) x.1 x.2 := by unfold keepM; rw [List.foldl_append]; rfl
def Lk.cnt (k : Lk) (ps : List (Nat × Nat)) : Nat := k.wy (keepM k.all ps) 0 0 k.h
def Lk.stepG (k : Lk) (many : Nat) (ps : List (Nat × Nat)) (x : Nat × Nat) : List (Nat × Nat) := if ps.length = many then ps else if 0 < k.cnt (ps ++ [x]) then ps ++ [x] else ps
def Lk.run (k : Lk) (many : Nat) (l : List (Nat × Nat)) : List (Nat × Nat) := l.foldl (k.stepG many) []
theorem Lk.run_snoc (k : Lk) (many : Nat) (l : List (Nat × Nat)) (x : Nat × Nat) : k.run many (l ++ [x]) = k.stepG many (k.run many l) x := by unfold Lk.run; rw [List.foldl_append]; rfl
theorem Lk.run_full {k : Lk} {many : Nat} {l : List (Nat × Nat)} (h : (k.run many l).length = many) (r : List (Nat × Nat)) : k.run many (l ++ r) = k.run many l := by
  induction r generalizing l with
  | nil => simp
  | cons x r ih =>
    have e : k.run many (l ++ [x]) = k.run many l := by rw [k.run_snoc]; unfold Lk.stepG; rw [if_pos h]
    have := ih (l := l ++ [x]) (by rw [e]; exact h)
    rw [List.append_assoc] at this
    rw [← e, ← this]
    rfl
theorem Lk.run_len (k : Lk) (many : Nat) (l : List (Nat × Nat)) : (k.run many l).length ≤ l.length := by
  refine rev_ind (P := fun l => (k.run many l).length ≤ l.length) (Nat.le_refl _) (fun l x ih => ?_) l
  rw [k.run_snoc]
  unfold Lk.stepG
  split
  · simp; omega
  · split
    · simp; omega
    · simp; omega
theorem Lk.run_mem {k : Lk} {many : Nat} {l : List (Nat × Nat)} : ∀ x ∈ k.run many l, x ∈ l := by
  refine rev_ind (P := fun l => ∀ x ∈ k.run many l, x ∈ l) (fun x hx => by cases hx) (fun l y ih => ?_) l
  intro x hx
  rw [k.run_snoc] at hx
  unfold Lk.stepG at hx
  split at hx
  · exact List.mem_append_left _ (ih x hx)
  · split at hx
    · rcases List.mem_append.1 hx with h | h
      · exact List.mem_append_left _ (ih x h)
      · exact List.mem_append_right _ h
    · exact List.mem_append_left _ (ih x hx)
theorem keepM_lt {m : Nat → Nat} (h : ∀ i, m i < 2048) (ps : List (Nat × Nat)) : ∀ i, keepM m ps i < 2048 := by
  refine rev_ind (P := fun ps => ∀ i, keepM m ps i < 2048) h (fun ps x ih => ?_) ps
  rw [keepM_snoc]
  exact onlM_lt ih _ _
theorem keepM_bit {m : Nat → Nat} {j b : Nat} (h : (m j).testBit b = false) (ps : List (Nat × Nat)) : (keepM m ps j).testBit b = false := by
  refine rev_ind (P := fun ps => (keepM m ps j).testBit b = false) h (fun ps x ih => ?_) ps
  rw [keepM_snoc, onlM_bit, ih, Bool.false_and]
theorem own_gr {w w' : World} {base : Nat} {e : TypeId} {size : Nat} {v : Value} {n : Nat} {xs : List Value} (h : w.ownsRow base e size v n xs) (hg : Gr w w') : w'.ownsRow base e size v n xs :=
  h.kept (Gr.gro hg) (by cases v.ownBlock <;> simp)
theorem own_kept {w w' : World} {base : Nat} {e : TypeId} {size : Nat} {v : Value} {n : Nat} {xs : List Value} {row : Option Nat} (h : w.ownsRow base e size v n xs) (hg : w.grownBy w' row) (hr : ∀ r, row = some r → ∃ o : Obj, w.heap[r]? = some o ∧ o.isCells = false) : w'.ownsRow base e size v n xs := by
  refine h.kept hg ?_
  obtain ⟨_, h1⟩ := h
  rcases h1 with ⟨rfl, hn⟩ | ⟨g, cap, cur, rfl, hb, hgg, -⟩
  · left; rfl
  · right
    intro e
    obtain ⟨o, ho, hc⟩ := hr g (by rw [← e]; rfl)
    rw [hgg] at ho
    cases ho
    cases hc
theorem own_slice {w : World} {base : Nat} {e : TypeId} {size : Nat} {v : Value} {n : Nat} {xs : List Value} (h : w.ownsRow base e size v n xs) : ∃ p cap, v = .slice p n cap := by
  obtain ⟨_, h1⟩ := h
  rcases h1 with ⟨rfl, hn⟩ | ⟨g, cap, cur, rfl, -⟩
  · exact ⟨none, 0, by rw [hn]⟩
  · exact ⟨_, _, rfl⟩
def FiI (k : Lk) (many : Nat) (w : World) (b3 b4 b5 base : Nat) {nL nR : Nat} (pre : List (Gp nL nR)) (W : World) : Prop :=
  Box W w.heap.size k.cs 85 ∧ (∃ v, Box W b3 [v] 34 ∧ W.ownsRow base 55 2 v (k.run many (pre.map Gp.p)).length ((k.run many (pre.map Gp.p)).flatMap pv)) ∧ Box W b4 [.int .i64 many] 3 ∧ Box W b5 (opts (keepM k.all (k.run many (pre.map Gp.p)))) 83 ∧ Below w.heap.size w W
theorem FiI.own (k : Lk) (many : Nat) (w : World) (b3 b4 b5 base : Nat) {nL nR B : Nat} (hB : w.heap.size ≤ B) : OwnFrom B (FiI k many w b3 b4 b5 base (nL := nL) (nR := nR)) := fun s A A' row ⟨h1, ⟨v, h2, h3⟩, h4, h5, h6⟩ hg hr =>
  ⟨h1.own' hg fun r e => (hr r e).2, ⟨v, h2.own' hg fun r e => (hr r e).2, own_kept h3 hg (fun r e => (hr r e).2)⟩, h4.own' hg fun r e => (hr r e).2, h5.own' hg fun r e => (hr r e).2, ownFrom_below (β := Unit) (Nat.le_refl _) hB () A A' row h6 hg hr⟩

end Go.Proofs.Ytjlaoiimbhlafaa
