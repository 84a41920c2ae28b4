import Derived.Test.YtjlaoiimbhlafaaB2
set_option linter.unusedVariables false
set_option linter.unusedSimpArgs false
namespace Go.Proofs.Ytjlaoiimbhlafaa
open Go.RowKit Go.Shelf

theorem Gr.gro {w w' : World} (h : Gr w w') : w.grownBy w' none := ⟨h.os, h.tape, h.output, h.size, fun k hk _ => h.block k hk⟩
theorem Box.gro {w w' : World} {b : Nat} {vs : List Value} {T : TypeId} {row : Option Nat} (h : Box w b vs T) (hg : w.grownBy w' row) (hne : some b ≠ row) : Box w' b vs T := by
  have h1 := hg.block b h.lt hne
  unfold Box at *
  rw [h1]
  exact h
theorem keepsO {A B : World} (h : Gr A B) : KeepsOthers A B := ⟨h.size, fun k _o hk _ => (h.block k (Array.getElem?_eq_some_iff.1 hk).1).trans hk⟩
theorem SeqStopsK.own {α : Type} {F : Fence} {n : Nat} {P : Program} {g : Nat} {lb : Array Value} {encs : α → Array Value} {Kp : World → World → Prop} {S Sp : List α → Prop} {N B : Nat} {w : World}
    (h : SeqStopsK F n P g lb encs Kp S Sp N w) : SeqStopsO F n P g lb encs Kp S Sp N B w := fun y J Jx W hW _ hJ hX hY h0 =>
  have walk : ∀ {row : Option Nat} {A : World}, (∀ r, row = some r → W.heap.size ≤ r ∧ ∃ o : Obj, A.heap[r]? = some o ∧ o.isWalk = true) → (∀ r, row = some r → W.heap.size ≤ r ∧ ∃ o : Obj, A.heap[r]? = some o ∧ o.isCells = false) := fun hr r e => by
    obtain ⟨hB, o, ho, hw⟩ := hr r e
    exact ⟨hB, o, ho, Obj.not_cells_of_walk hw⟩
  h y J Jx W hW (fun s A B row hs hg hr => hJ s A B row hs hg (walk hr)) (fun s A B row hs hg hr => hX s A B row hs hg (walk hr)) hY h0
theorem Box.own' {W W' : World} {row : Option Nat} {b : Nat} {vs : List Value} {T : TypeId} (h : Box W b vs T) (hg : W.grownBy W' row) (hr : ∀ r, row = some r → ∃ o : Obj, W.heap[r]? = some o ∧ o.isCells = false) : Box W' b vs T :=
  h.gro hg fun e => by
    obtain ⟨o, ho, hc⟩ := hr b e.symm
    unfold Box at h
    rw [h] at ho
    cases ho
    cases hc
theorem ownFrom_box {β : Type} (B b : Nat) (vs : β → List Value) (T : TypeId) : OwnFrom B (fun s W => Box W b (vs s) T) := fun _ _ _ _ hs hg hr => hs.own' hg fun r e => (hr r e).2
theorem Only.own {b : Nat} {w A A' : World} {row : Option Nat} {B : Nat} (h : Only b w A) (hB : w.heap.size ≤ B) (hb : b < w.heap.size) (hg : A.grownBy A' row) (hr : ∀ r, row = some r → B ≤ r ∧ ∃ o : Obj, A.heap[r]? = some o ∧ o.isCells = false) : Only b w A' :=
  ⟨ownFrom_below (β := Unit) (n₀ := b) (w₀ := w) (by omega) (show b ≤ B by omega) () A A' row h.low hg hr, Nat.le_trans h.size hg.size, fun k hk hl => (hg.block k (Nat.lt_of_lt_of_le hl h.size) (fun e => by have := (hr k e.symm).1; omega)).trans (h.keep k hk hl)⟩
theorem Only.from {b : Nat} {A A' : World} (h : Only b A A') {B : Nat} (hb : b < B) : KeepsFrom B A A' := ⟨h.size, fun k o hk ho _ => (h.keep k (by omega) (Array.getElem?_eq_some_iff.1 ho).1).trans ho⟩
end Go.Proofs.Ytjlaoiimbhlafaa
