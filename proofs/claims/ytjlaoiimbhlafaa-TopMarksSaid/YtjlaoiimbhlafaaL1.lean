import Derived.Test.YtjlaoiimbhlafaaPH
import Derived.Deep.AppendLies
import Derived.OwnWalk
set_option linter.unusedVariables false
set_option linter.unusedSimpArgs false
namespace Go.Proofs.Ytjlaoiimbhlafaa
open Go.RowKit Go.Shelf

open MW
attribute [local go_sem] Oper.semAt_some run_store_func
theorem andNot_sub {a b : Nat} (ha : a < 4096) (hb : b < 4096) (h : ∀ k, a.testBit k = true → b.testBit k = true) : bits BinOp.andNot IntKind.i64 (a : Int) (b : Int) = 0 := by
  simp only [bits, BitVec.ofInt_natCast]
  have : (BitVec.ofNat IntKind.i64.bits a &&& ~~~BitVec.ofNat IntKind.i64.bits b) = 0#(IntKind.i64.bits) := by
    apply BitVec.eq_of_getLsbD_eq
    intro i hi
    rw [BitVec.getLsbD_and, BitVec.getLsbD_not, BitVec.getLsbD_ofNat, BitVec.getLsbD_ofNat, BitVec.getLsbD_zero]
    have := h i
    cases hA : a.testBit i <;> cases hB : b.testBit i <;> simp_all
  rw [this]
  rfl
/-! A row of marks that is appended to an empty one. -/
theorem info65p : (Try.prog.info? 65).map (fun i => (i.zero, i.size, i.bytes)) = some (some (.agg #[.int .i64 0, .int .i64 0, .int .i64 0, .int .i64 0]), 4, 32) := by kernel_rfl
theorem mks_flat_len (l : List Mrk) : (l.flatMap Mrk.cs).length = l.length * 4 := by
  induction l with
  | nil => rfl
  | cons m l ih => rw [List.flatMap_cons, List.length_append, ih, List.length_cons]; show 4 + _ = _; omega
theorem mks_flat_at : ∀ (l : List Mrk) (i : Nat) (m : Mrk), l[i]? = some m → (l.flatMap Mrk.cs)[i * 4]? = some (.int .i64 m.a) ∧ (l.flatMap Mrk.cs)[i * 4 + 1]? = some (.int .i64 m.b) ∧ (l.flatMap Mrk.cs)[i * 4 + 2]? = some (.int .i64 m.c) ∧ (l.flatMap Mrk.cs)[i * 4 + 3]? = some (.int .i64 m.d)
  | [], i, m, h => by cases h
  | a :: l, 0, m, h => by cases h; exact ⟨rfl, rfl, rfl, rfl⟩
  | a :: l, i + 1, m, h => by
    have := mks_flat_at l i m h
    rw [List.flatMap_cons, show (i + 1) * 4 = i * 4 + 4 by omega]
    exact this
theorem mks_one (l : List Mrk) : ∀ u ∈ l.flatMap Mrk.cs, u.oneCell' = true := by
  intro u hu
  obtain ⟨m, -, hm⟩ := List.mem_flatMap.1 hu
  unfold Mrk.cs at hm
  simp only [List.mem_cons, List.not_mem_nil, or_false] at hm
  rcases hm with rfl | rfl | rfl | rfl <;> rfl
theorem mks_news {l : List Mrk} {W : World} {b o : Nat} (h : MksAt l (some ⟨b, o, none⟩) W) : ∀ j u, (l.flatMap Mrk.cs)[j]? = some u → W.cell? ((⟨b, o, none⟩ : Addr).add j) = some u := by
  intro j u hu
  have hlen := mks_flat_len l
  have hj : j < l.length * 4 := by have := (List.getElem?_eq_some_iff.1 hu).1; omega
  have hi : j / 4 < l.length := by omega
  have hlt : l[j / 4]? = some l[j / 4] := List.getElem?_eq_getElem hi
  obtain ⟨a1, a2, a3, a4⟩ := mks_flat_at l _ _ hlt
  obtain ⟨-, c1, c2, c3, c4⟩ := mk_cells h hlt rfl
  have : (⟨b, o, none⟩ : Addr).add j = ⟨b, o + j, none⟩ := by unfold Addr.add; split <;> simp_all
  rw [this]
  have hm : j % 4 = 0 ∨ j % 4 = 1 ∨ j % 4 = 2 ∨ j % 4 = 3 := by omega
  rcases hm with e | e | e | e
  · rw [show j / 4 * 4 = j by omega, hu] at a1
    rw [show o + j / 4 * 4 = o + j by omega] at c1
    rw [c1]; exact a1.symm
  · rw [show j / 4 * 4 + 1 = j by omega, hu] at a2
    rw [show o + j / 4 * 4 + 1 = o + j by omega] at c2
    rw [c2]; exact a2.symm
  · rw [show j / 4 * 4 + 2 = j by omega, hu] at a3
    rw [show o + j / 4 * 4 + 2 = o + j by omega] at c3
    rw [c3]; exact a3.symm
  · rw [show j / 4 * 4 + 3 = j by omega, hu] at a4
    rw [show o + j / 4 * 4 + 3 = o + j by omega] at c4
    rw [c4]; exact a4.symm
theorem mks_own_none (W : World) : (W.alloc (.cells #[] 65)).ownsRow W.heap.size 65 4 (.slice (some ⟨W.heap.size, 0, none⟩) 0 0) 0 [] := by
  refine ⟨rfl, .inr ⟨W.heap.size, 0, #[], rfl, Nat.le_refl _, ?_, Nat.le_refl _, Nat.zero_le _, rfl, rfl⟩⟩
  have := Box.fresh W [] 65
  unfold Box at this
  simpa using this
/-- A block whose first cells are those of marks. -/
def MkBox (W : World) (g : Nat) (l : List Mrk) : Prop := ∃ cs : List Value, Box W g cs 65 ∧ cs.take (l.length * 4) = l.flatMap Mrk.cs
theorem MkBox.grow {W W' : World} {g : Nat} {l : List Mrk} (h : MkBox W g l) (hg : Gr W W') : MkBox W' g l := by
  obtain ⟨cs, h1, h2⟩ := h
  exact ⟨cs, h1.grow hg, h2⟩
theorem MkBox.free {W : World} {g : Nat} {l : List Mrk} (h : MkBox W g l) (i : Nat) : W.frozen? ⟨g, i, none⟩ = false := by
  obtain ⟨cs, h1, -⟩ := h
  exact h1.free i
theorem MkBox.other {W : World} {g b : Nat} {l : List Mrk} (h : MkBox W g l) (hne : g ≠ b) (i : Nat) (x : Value) : MkBox (W.setCell ⟨b, i, none⟩ x) g l := by
  obtain ⟨cs, h1, h2⟩ := h
  exact ⟨cs, h1.other hne i x, h2⟩
theorem MkBox.at {W : World} {g : Nat} {l : List Mrk} (h : MkBox W g l) (hl : l.length ≤ 1000) : MksAt l (some ⟨g, 0, none⟩) W := by
  obtain ⟨cs, h1, h2⟩ := h
  refine ⟨hl, fun i m hm => ?_⟩
  obtain ⟨a1, a2, a3, a4⟩ := mks_flat_at l i m hm
  have hi := (List.getElem?_eq_some_iff.1 hm).1
  have k : ∀ j x, j < l.length * 4 → (l.flatMap Mrk.cs)[j]? = some x → W.cell? ⟨g, 0 + j, none⟩ = some x := fun j x hj hx => by
    rw [← h2, List.getElem?_take, if_pos hj] at hx
    rw [Nat.zero_add]
    exact h1.cell hx
  exact ⟨g, 0, rfl, h1.lt, k _ _ (by omega) a1, k _ _ (by omega) a2, k _ _ (by omega) a3, k _ _ (by omega) a4⟩
/-- Two numbers of a mark that are stored. -/
theorem MkBox.put {W : World} {g : Nat} {l : List Mrk} {n : Nat} {m : Mrk} (h : MkBox W g l) (hm : l[n]? = some m) (a d : Int) :
    MkBox ((W.setCell ⟨g, n * 4, none⟩ (.int .i64 a)).setCell ⟨g, n * 4 + 3, none⟩ (.int .i64 d)) g (l.set n ⟨a, m.b, m.c, d⟩) := by
  obtain ⟨cs, h1, h2⟩ := h
  refine ⟨(cs.set (n * 4) (.int .i64 a)).set (n * 4 + 3) (.int .i64 d), (h1.put (n * 4) _).put (n * 4 + 3) _, ?_⟩
  rw [List.length_set]
  have hn := (List.getElem?_eq_some_iff.1 hm).1
  have key : ∀ (l : List Mrk) (n : Nat), l[n]? = some m → (l.set n ⟨a, m.b, m.c, d⟩).flatMap Mrk.cs = ((l.flatMap Mrk.cs).set (n * 4) (.int .i64 a)).set (n * 4 + 3) (.int .i64 d) := by
    intro l
    induction l with
    | nil => intro n h; cases h
    | cons x l ih =>
      intro n h
      cases n with
      | zero => cases h; rfl
      | succ n =>
        have h' : l[n]? = some m := h
        rw [List.set_cons_succ, List.flatMap_cons, List.flatMap_cons, ih n h', show (n + 1) * 4 + 3 = n * 4 + 3 + 4 by omega, show (n + 1) * 4 = n * 4 + 4 by omega]
        rfl
  rw [key l n hm, ← h2, List.take_set, List.take_set]
theorem MkBox.of_own {W : World} {base g n cap : Nat} {l : List Mrk} (hn : n = l.length) (h : W.ownsRow base 65 4 (.slice (some ⟨g, 0, none⟩) n cap) n (l.flatMap Mrk.cs)) : MkBox W g l ∧ (base ≤ g ∨ n = 0) := by
  obtain ⟨-, h⟩ := h
  rcases h with ⟨hv, -⟩ | ⟨g', cap', cur, hv, hge, hcur, -, -, -, hct⟩
  · cases hv
  · obtain ⟨rfl, -⟩ : g = g' ∧ cap = cap' := by simpa using hv
    refine ⟨⟨cur.toList, by unfold Box; simpa using hcur, ?_⟩, .inl hge⟩
    rw [← hn]
    exact hct

end Go.Proofs.Ytjlaoiimbhlafaa
