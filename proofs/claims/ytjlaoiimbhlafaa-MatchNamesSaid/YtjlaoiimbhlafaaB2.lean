import Derived.Test.YtjlaoiimbhlafaaB1
set_option linter.unusedVariables false
set_option linter.unusedSimpArgs false
namespace Go.Proofs.Ytjlaoiimbhlafaa
open Go.RowKit Go.Shelf

/-! An iterator that ranges over iterators itself: its own loops' records turn while it runs. So what is asked of it is kept of predicates that abide the turn of any block without cells that was laid since its call began. -/
def SeqStopsO {α : Type} (F : Fence) (n : Nat) (P : Program) (g : Nat) (lb : Array Value) (encs : α → Array Value) (Kp : World → World → Prop) (S Sp : List α → Prop) (N B : Nat) (w : World) : Prop :=
  ∀ (y : Nat) (J Jx : List α → World → Prop) (W : World), Gr w W → B ≤ W.heap.size → OwnFrom W.heap.size J → OwnFrom W.heap.size Jx →
    (∀ pre x A, J pre A → pre.length < N → YieldAt F (n - 1) P y (encs x) A fun e B =>
      (e = .returned (.bool true) ∧ J (pre ++ [x]) B ∧ Kp A B) ∨ (e = .returned (.bool false) ∧ Jx (pre ++ [x]) B)) →
    J [] W → CallsIn F n P g (#[.func (.yield y) #[] #[]] ++ lb) W fun e B => (∃ v, e = .returned v) ∧ ((∃ xs, S xs ∧ J xs B) ∨ (∃ pre, Sp pre ∧ Jx pre B))

section
variable {F : Fence} {n : Nat} {P : Program}
/-- The two blocks that a loop lays: for the rounds' deferred calls, and its record. -/
structure Kept (D : Nat) (r : Loop) (W : World) : Prop where
  record : W.heap[D + 1]? = some (.loop r)
  calls : W.heap[D]? = some (.deferred (some []))
theorem Kept.grown {D : Nat} {r : Loop} {A B : World} {row : Option Nat} (h : Kept D r A) (hg : A.grownBy B row) (hr : ∀ i, row = some i → D + 2 ≤ i) : Kept D r B :=
  ⟨(hg.block _ (Array.getElem?_eq_some_iff.1 h.record).1 (fun e => by have := hr _ e.symm; omega)).trans h.record, (hg.block _ (Array.getElem?_eq_some_iff.1 h.calls).1 (fun e => by have := hr _ e.symm; omega)).trans h.calls⟩
theorem Kept.from {D : Nat} {r : Loop} {A B : World} (h : Kept D r A) (hk : KeepsFrom D A B) : Kept D r B := ⟨hk.same _ _ (by omega) h.record rfl, hk.same _ _ (Nat.le_refl _) h.calls rfl⟩
theorem Kept.turn {D : Nat} {r : Loop} {A : World} (h : Kept D r A) (r' : Loop) : Kept D r' (A.putObj (D + 1) (.loop r')) :=
  ⟨World.putObj_heap_same (Array.getElem?_eq_some_iff.1 h.record).1, (World.putObj_heap_other (by omega)).trans h.calls⟩
/-- The law of a range over such an iterator, at an outermost loop. -/
theorem wpIn_rangeOwn {α : Type} {g : Operand} {ps : Array Tmp} {assign body : Code} {Q : Exit → Act → World → Prop} {a : Act} {w : World}
    (hro : F.round = none) (h1 : 1 ≤ n) {gf : Nat} {lb : Array Value} (hg : a.eval g = .func (.func gf) #[] lb) (hFg : F.fn gf) (eg : ∀ args w, (callFunc gf args).run P w = .ok (.enter gf args) w)
    {encs : α → Array Value} {Kp : World → World → Prop} {S Sp : List α → Prop} {N : Nat} {w0 : World} (hseq : SeqStopsO F (n - 1) P gf lb encs Kp S Sp N (w.heap.size + 2) w0) (hw0 : Gr w0 w)
    (hKt : ∀ {A B C : World}, Kp A B → Kp B C → Kp A C) (hKb : ∀ (W : World) (o' : Obj), Kp W (W.putObj (w.heap.size + 1) o')) (hps : ∀ x, (encs x).size = ps.size)
    (I : List α → World → Prop) (Ix : Code → List α → World → Prop) (hI : OwnFrom w.heap.size I) (hIx : ∀ c, OwnFrom w.heap.size (Ix c)) (h0 : I [] w)
    (Ax : α → Act → World → Prop) (hAx : ∀ x a', OwnFrom w.heap.size (fun (_ : Unit) W => Ax x a' W))
    (hassign : ∀ (l : Nat) (pre : List α) (x : α) (W : World) (K : Act → World → Prop), I pre W → (∀ a' W', KeepsFrom w.heap.size W W' → Kp W W' → I pre W' → Ax x a' W' → K a' W') →
      assign.wpIn (F.inRound l) (n - 1 - 1) P (Exit.then K (fun _ _ _ => False)) { tmps := (ps.zip (encs x)).foldl (fun t (p, v) => t.setIfInBounds p v) a.tmps, defers := [] } W)
    (hbody : ∀ (l : Nat) (pre : List α) (x : α) (a' : Act) (W : World), w.heap.size ≤ l → (∃ r, W.heap[l]? = some (.loop r)) → I pre W → Ax x a' W → pre.length < N → body.wpIn (F.inRound l) (n - 1 - 1) P (ownPostG w.heap.size Kp I Ix (pre ++ [x]) W) a' W)
    (hdone : ∀ (D : Nat) (xs : List α) (W : World), w.heap.size ≤ D → S xs → I xs W → W.heap[D]? = some (.deferred (some [])) → Q .normal { a with defers := { target := .collected D, args := #[] } :: a.defers } W)
    (hstop : ∀ (D : Nat) (c : Code) (pre : List α) (W : World), w.heap.size ≤ D → Sp pre → Ix c pre W → W.heap[D]? = some (.deferred (some [])) → c.wpIn F n P Q { a with defers := { target := .collected D, args := #[] } :: a.defers } W) :
    (Code.rangeFunc g ps assign body).wpIn F n P Q a w := by
  refine wpIn_rangeFunc fun fn hfn => ?_
  rw [hro]
  have hrun := run_enterLoop_outer (P := P) (w := w) fn a.tmps ps assign body
  generalize hD : w.heap.size = D at *
  obtain ⟨rec, hrec⟩ : ∃ rec : LoopState → Option Code → Loop, rec = fun st pe => { state := st, pending := pe, fn, tmps := a.tmps, params := ps, assign, body, defers := D } := ⟨_, rfl⟩
  obtain ⟨W1, hW1⟩ : ∃ W1, (w.alloc (.deferred (some []))).alloc (.loop (rec .ready none)) = W1 := ⟨_, rfl⟩
  have hsz : W1.heap.size = D + 2 := by rw [← hW1]; simp [hD]
  have hk1 : Kept D (rec .ready none) W1 := by
    rw [← hW1, ← hD]
    refine ⟨?_, (Below.heap_alloc _ _ _ (by simp)).trans (World.alloc_heap_new w _)⟩
    have := World.alloc_heap_new (w.alloc (.deferred (some []))) (.loop (rec .ready none))
    rwa [World.size_alloc] at this
  have hi1 : I [] W1 := by rw [← hW1]; exact hI.alloc _ (hI.alloc _ h0)
  have hg1 : Gr w0 W1 := by rw [← hW1]; exact (hw0.tr (Gr.alloc _ _)).tr (Gr.alloc _ _)
  have hst : ∀ (st : LoopState) (pe : Option Code), ({ state := st, pending := pe, fn, tmps := a.tmps, params := ps, assign, body, defers := D } : Loop) = rec st pe := fun st pe => by rw [hrec]
  refine ⟨D + 1, [{ target := .collected D, args := #[] }], W1, { target := .fn (.func gf) lb, args := #[.func (.yield (D + 1)) #[] #[]] }, W1, gf, #[.func (.yield (D + 1)) #[] #[]] ++ lb, W1, ?_, ?_, ?_, ?_, fun _ => h1, ?_⟩
  · rw [hrun, ← hW1, ← hst]
  · simp only [resolve, hg]
    simp [go_sem]
  · intro f' hf'; simp [Target.leads] at hf'; subst hf'; exact hFg
  · simp [invoke, go_sem, eg]
  have own : ∀ {row : Option Nat} {A : World}, (∀ r, row = some r → W1.heap.size ≤ r ∧ ∃ o : Obj, A.heap[r]? = some o ∧ o.isCells = false) → (∀ r, row = some r → D ≤ r ∧ ∃ o : Obj, A.heap[r]? = some o ∧ o.isCells = false) := fun h r e => ⟨by have := (h r e).1; omega, (h r e).2⟩
  refine (hseq (D + 1) (fun pre W => I pre W ∧ Kept D (rec .ready none) W) (fun pre W => ∃ c, Ix c pre W ∧ Kept D (rec .done (some c)) W) W1 hg1 (by omega)
    (fun s A B row h hgr hr => ⟨hI s A B row h.1 hgr (own hr), h.2.grown hgr fun i e => by have := (hr i e).1; omega⟩)
    (fun s A B row ⟨c, h, hk⟩ hgr hr => ⟨c, hIx c s A B row h hgr (own hr), hk.grown hgr fun i e => by have := (hr i e).1; omega⟩)
    ?_ ⟨hi1, hk1⟩).mono ?_
  · rintro pre x W ⟨hi, hk⟩ hlen
    have hy := run_yield (P := P) (args := encs x) hk.record (by rw [hrec]; exact hps x)
    rw [hrec] at hy
    refine ⟨fn, _, assign, body, hy, roundIn_of_wpIn hfn (hassign _ pre x W _ hi fun a' A hka hpa hia hax => ?_)⟩
    have hkA := hk.from hka
    refine ⟨_, run_beginRound hkA.record (by rw [hrec]), ?_⟩
    have hkB := hkA.turn { rec .ready none with state := .busy }
    have hpB := hpa |> fun h => hKt h (hKb A (.loop { rec .ready none with state := .busy }))
    refine wpIn_mono (hbody _ pre x a' _ (by omega) ⟨_, hkB.record⟩ (hI.putObj _ hia (by omega) hkA.record rfl) ((hAx x a').putObj (s := ()) _ hax (by omega) hkA.record rfl) hlen) ?_
    have leave : ∀ (jump : Option Code) (C : World), KeepsFrom D (A.putObj (D + 1) (.loop { rec .ready none with state := .busy })) C →
        (Instr.endRound (D + 1) jump).run P C = .ok (.bool jump.isNone) (C.putObj (D + 1) (.loop (rec (if jump.isNone then .ready else .done) jump))) ∧
        Kept D (rec (if jump.isNone then .ready else .done) jump) (C.putObj (D + 1) (.loop (rec (if jump.isNone then .ready else .done) jump))) ∧ C.heap[D + 1]? = some (.loop { rec .ready none with state := .busy }) := fun jump C hC => by
      have hkC := hkB.from hC
      have h := run_endRound (P := P) jump hkC.record
      have ht := hkC.turn (rec (if jump.isNone then .ready else .done) jump)
      refine ⟨?_, ht, hkC.record⟩
      rw [hrec] at h ⊢
      exact h
    rintro e a3 C hp
    cases e with
    | normal =>
      obtain ⟨hC, hpC, hiC⟩ := hp
      obtain ⟨hr, hkC, hrC⟩ := leave none C hC
      exact ⟨_, _, hr, .inl ⟨rfl, ⟨hI.putObj _ hiC (by omega) hrC rfl, hkC⟩, hKt (hKt hpB hpC) (hKb _ _)⟩⟩
    | ret =>
      obtain ⟨hr, hkC, hrC⟩ := leave (some .ret) C hp.1
      exact ⟨_, _, hr, .inr ⟨rfl, .ret, (hIx _).putObj _ hp.2 (by omega) hrC rfl, hkC⟩⟩
    | exit id =>
      obtain ⟨hr, hkC, hrC⟩ := leave (some (.exit id)) C hp.1
      exact ⟨_, _, hr, .inr ⟨rfl, .exit id, (hIx _).putObj _ hp.2 (by omega) hrC rfl, hkC⟩⟩
    | goto t =>
      obtain ⟨hr, hkC, hrC⟩ := leave (some (.goto t)) C hp.1
      exact ⟨_, _, hr, .inr ⟨rfl, .goto t, (hIx _).putObj _ hp.2 (by omega) hrC rfl, hkC⟩⟩
    | panic ch => exact hp.elim
    | outgrown => exact hp.elim
  · have fin : ∀ (pe : Option Code) (st : LoopState) (C : World), st ≠ .busy → Kept D (rec st pe) C → ∃ C', (Instr.endLoop (D + 1)).run P C = .ok pe C' ∧ ∃ o, C' = C.putObj (D + 1) o := fun pe st C hs hk => by
      have h := run_endLoop (P := P) hk.record (by rw [hrec]; simpa using hs)
      have hp : (rec st pe).pending = pe := by rw [hrec]
      rw [hp] at h
      exact ⟨_, h, _, rfl⟩
    rintro e C ⟨⟨v, rfl⟩, (⟨xs, hS, hi, hk⟩ | ⟨pre, hSp, c, hi, hk⟩)⟩
    · obtain ⟨C', hr, ob, rfl⟩ := fin none .ready C (by simp) hk
      exact ⟨none, _, hr, hdone _ xs _ (Nat.le_refl _) hS (hI.putObj _ hi (by omega) hk.record rfl) ((World.putObj_heap_other (by omega)).trans hk.calls)⟩
    · obtain ⟨C', hr, ob, rfl⟩ := fin (some c) .done C (by simp) hk
      exact ⟨some c, _, hr, hstop _ c pre _ (Nat.le_refl _) hSp ((hIx c).putObj _ hi (by omega) hk.record rfl) ((World.putObj_heap_other (by omega)).trans hk.calls)⟩
end
end Go.Proofs.Ytjlaoiimbhlafaa
