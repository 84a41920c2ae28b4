import Derived.Test.YtjlaoiimbhlafaaP0
import Derived.Laws.Rows
import Derived.Laws.Tables
import Derived.Laws.CopyOwn
import Derived.MapKept
import Derived.RangeFuncFrom
import Derived.RangeFuncNested
import Derived.RangeFuncBound
import Derived.RangeFuncCalls
import Derived.RangeFuncLeaves
import Derived.Shelf.Abstract
import Derived.Shelf.RegionOpen
import Derived.OwnWalkIn
import Derived.TacticsInMore
import Derived.LoopNIn
import Derived.WalkMore
import Derived.LoopIn
import Derived.OrdersIn
import Derived.Deep.QuietTactic
import Derived.BigQuiet
set_option linter.unusedVariables false
set_option linter.unusedSimpArgs false
namespace Go.Proofs.Ytjlaoiimbhlafaa
open Go.RowKit Go.Shelf

def rowD : TypeDesc → Bool
  | .struct _ | .array _ _ => true
  | _ => false
/-- Is a type a row of so many cells? -/
def rowOf (P : Program) (ty : TypeId) (n : Nat) : Bool := match P.underlying ty, P.info? ty with | some d, some i => rowD d && i.size == n | _, _ => false
theorem rowOf.parts {P : Program} {ty : TypeId} {n : Nat} (h : rowOf P ty n = true) : ∃ d, P.underlying ty = some d ∧ rowD d = true ∧ (P.info? ty).map (·.size) = some n := by
  unfold rowOf at h
  split at h
  · rename_i d i h1 h2
    simp only [Bool.and_eq_true, beq_iff_eq] at h
    exact ⟨d, h1, h.1, by rw [h2]; exact congrArg some h.2⟩
  · cases h
theorem Box.row {w : World} {b : Nat} {old vs : List Value} {T : TypeId} (h : Box w b old T) : Box (w.setRow b vs.toArray) b vs T := setRow_heap w b old.toArray vs.toArray T (0, 0) h
theorem Box.row_other {w : World} {b b' : Nat} {vs : List Value} {T : TypeId} (h : Box w b vs T) (hne : b ≠ b') (cs : Array Value) : Box (w.setRow b' cs) b vs T := (setRow_other w b' b cs hne).trans h
section
variable {P : Program}
def Stop (p : Prop) : Prop := p
theorem wpList_stopLoad {ops : Array Oper} {rest : List Oper} {o : Oper} {a : Act} {w : World} {Q : Exit → Act → World → Prop} {ty : TypeId} {x : Operand} (_ : o.op = .load ty x) (h : Stop (wpList P ops Q (o :: rest) a w)) : wpList P ops Q (o :: rest) a w := h
theorem wpList_stopStore {ops : Array Oper} {rest : List Oper} {o : Oper} {a : Act} {w : World} {Q : Exit → Act → World → Prop} {ty : TypeId} {x y : Operand} (_ : o.op = .store ty x y) (h : Stop (wpList P ops Q (o :: rest) a w)) : wpList P ops Q (o :: rest) a w := h
theorem wpList_stopBuild {ops : Array Oper} {rest : List Oper} {o : Oper} {a : Act} {w : World} {Q : Exit → Act → World → Prop} {ty : TypeId} {x : Array (Nat × Operand)} (_ : o.op = .build ty x) (h : Stop (wpList P ops Q (o :: rest) a w)) : wpList P ops Q (o :: rest) a w := h
/-- A whole row out of its block. -/
theorem wpList_loadBox {ops : Array Oper} {rest : List Oper} {o : Oper} {a : Act} {w : World} {Q : Exit → Act → World → Prop} {vs : List Value} {T ty : TypeId} {x : Operand} {g n : Nat} (hr : rowOf P ty n = true) (hn : vs.length = n) (hg : Box w g vs T)
    (ho : o.op = .load ty x) (hgd : o.guard = none) (hx : a.eval x = .pointer (some ⟨g, 0, none⟩))
    (h : wpList P ops Q rest (a.put o.dst (.agg vs.toArray)) w) : wpList P ops Q (o :: rest) a w := by
  obtain ⟨d, hu, hd, hi⟩ := rowOf.parts hr
  exact wpList_load_row hgd ty x ho g hx T vs.toArray (0, 0) d hg hu (by cases d <;> simp_all [rowD]) (by simpa [hn] using hi) h
/-- A whole row into its block. -/
theorem wpList_storeBox {ops : Array Oper} {rest : List Oper} {o : Oper} {a : Act} {w : World} {Q : Exit → Act → World → Prop} {old vs : List Value} {T ty : TypeId} {x y : Operand} {g n : Nat} (hr : rowOf P ty n = true) (hn : vs.length = n) (hold : old.length = n) (h1 : vs.all (·.oneCell') = true) (hg : Box w g old T)
    (ho : o.op = .store ty x y) (hgd : o.guard = none) (hx : a.eval x = .pointer (some ⟨g, 0, none⟩)) (hy : a.eval y = .agg vs.toArray)
    (h : wpList P ops Q rest (a.put o.dst undef) (w.setRow g vs.toArray)) : wpList P ops Q (o :: rest) a w := by
  obtain ⟨d, -, -, hi⟩ := rowOf.parts hr
  exact wpList_store_row hgd ty x y ho g vs.toArray hx hy T old.toArray hg (by simpa [hn] using hi) (by simp [hn, hold]) (by simpa using h1) h
/-- A whole row, built of its parts. -/
theorem wpList_buildRow {ops : Array Oper} {rest : List Oper} {o : Oper} {a : Act} {w : World} {Q : Exit → Act → World → Prop} {vs : List Value} {ty : TypeId} {parts : Array (Nat × Operand)} {ps : List (Nat × Value)} (hb : P.built ty ps = some vs.toArray)
    (ho : o.op = .build ty parts) (hgd : o.guard = none) (hp : (parts.map fun (i, x) => (i, a.eval x)).toList = ps)
    (h : wpList P ops Q rest (a.put o.dst (.agg vs.toArray)) w) : wpList P ops Q (o :: rest) a w := by
  refine wpList_build hgd ty parts ho (by rw [hp, hb]; rfl) ?_
  rw [hp, hb]
  exact h
end
theorem run_storeBox {W : World} {g : Nat} {old vs : List Value} {T : TypeId} (hg : Box W g old T) (hl : old.length = vs.length) (h1 : vs.all (·.oneCell') = true) :
    (storeCells ⟨g, 0, none⟩ vs).run Try.prog W = .ok () (W.setRow g vs.toArray) :=
  run_storeCells_from (P := Try.prog) g T vs 0 old.toArray W hg (by simp [hl]) (fun v hv => List.all_eq_true.1 h1 v hv)
theorem result_row {fn : Func} {p : Tmp} {ty : TypeId} {n : Nat} {vs : List Value} {T : TypeId} {tmps : Array Value} {w : World} {g : Nat} (hr : rowOf Try.prog ty n = true) (hn : vs.length = n) (hg : Box w g vs T) (h : fn.results = #[.cell p ty]) (hp : tmps.getD p undef = .pointer (some ⟨g, 0, none⟩)) :
    (results fn tmps).run Try.prog w = .ok (.agg vs.toArray) w := by
  obtain ⟨d, hu, hd, hi⟩ := rowOf.parts hr
  exact results_cell_row h tmps w g T vs.toArray (0, 0) d hp hg hu (by cases d <;> simp_all [rowD]) (by simpa [hn] using hi)
theorem exec_loadBox {P : Program} {vs : List Value} {T ty : TypeId} {x : Operand} {g n : Nat} {o : Oper} {ρ : Operand → Value} {W : World} (hr : rowOf P ty n = true) (hn : vs.length = n) (hg : Box W g vs T)
    (ho : o.op = .load ty x) (hx : ρ x = .pointer (some ⟨g, 0, none⟩)) : (execOp ρ o).run P W = .ok (.value (.agg vs.toArray)) W := by
  obtain ⟨d, hu, hd, hi⟩ := rowOf.parts hr
  unfold execOp
  simp only [ho, hx, Instr.loadAt, Instr.sureAddr, Sem.run_bind, Sem.run_pure, Result.andThen_ok, run_loadVar_row W g T ty vs.toArray (0, 0) d hg hu (by cases d <;> simp_all [rowD]) (by simpa [hn] using hi)]
/-- Nothing that is there turns, but block b. -/
structure Only (b : Nat) (w w' : World) : Prop where
  low : Below b w w'
  size : w.heap.size ≤ w'.heap.size
  keep : ∀ k, k ≠ b → k < w.heap.size → w'.heap[k]? = w.heap[k]?
theorem Only.of {b : Nat} {w w' : World} (hb : b < w.heap.size) (h : Gr w w') : Only b w w' := ⟨Below.mono h (by omega), h.size, fun k _ hk => h.block k hk⟩
theorem Only.tr {b : Nat} {u v w : World} (h : Only b u v) (k : Only b v w) : Only b u w :=
  ⟨h.low.trans k.low, Nat.le_trans h.size k.size, fun j hj hl => (k.keep j hj (Nat.lt_of_lt_of_le hl h.size)).trans (h.keep j hj hl)⟩
theorem Only.set {b : Nat} (w : World) (i : Nat) (v : Value) : Only b w (w.setCell ⟨b, i, none⟩ v) :=
  ⟨by have := (Below.refl b w).setCell (p := ⟨b, i, none⟩) (Nat.le_refl b) v; exact this, by simp, fun k hk hl => Below.heap_setCell _ _ _ _ hk⟩
theorem Only.box {b : Nat} {w w' : World} (h : Only b w w') {c : Nat} {vs : List Value} {T : TypeId} (hc : Box w c vs T) (hne : c ≠ b) : Box w' c vs T := (h.keep c hne hc.lt).trans hc
/-- Some cells of a block, read as a row. -/
theorem run_loadPart {P : Program} {W : World} {g i n : Nat} {vs us : List Value} {T ty : TypeId} (hr : rowOf P ty n = true) (hn : us.length = n) (hg : Box W g vs T) (hu : (vs.drop i).take n = us) :
    (loadVar ty ⟨g, i, none⟩).run P W = .ok (.agg us.toArray) W := by
  obtain ⟨d, hd, hd2, hi⟩ := rowOf.parts hr
  have hl : (loadCells ⟨g, i, none⟩ us.length).run P W = .ok us.toArray W := run_loadCells_list (P := P) W ⟨g, i, none⟩ us (fun j v hv => by
    have hadd : (⟨g, i, none⟩ : Addr).add j = ⟨g, i + j, none⟩ := by unfold Addr.add; split <;> simp_all
    rw [hadd]
    refine hg.cell ?_
    rw [← hu] at hv
    have hj : j < n := by have := (List.getElem?_eq_some_iff.1 hv).1; simp at this; omega
    rw [List.getElem?_take_of_lt hj, List.getElem?_drop] at hv
    exact hv)
  cases hq : P.info? ty with
  | none => simp [hq] at hi
  | some inf =>
    have hs : inf.size = us.length := by simp [hq] at hi; omega
    have hagg : (isAgg ty).run P W = .ok true W := by
      unfold isAgg
      rw [Sem.run_bind, run_underlying hd W]
      cases d <;> simp_all [rowD]
    simp [loadVar, Sem.run_bind, hagg, sizeOf, typeInfo, hq, hs, hl]
theorem wpList_loadPart {P : Program} {ops : Array Oper} {rest : List Oper} {o : Oper} {a : Act} {w : World} {Q : Exit → Act → World → Prop} {vs us : List Value} {T ty : TypeId} {x : Operand} {g i n : Nat} (hr : rowOf P ty n = true) (hn : us.length = n) (hg : Box w g vs T) (hu : (vs.drop i).take n = us)
    (ho : o.op = .load ty x) (hgd : o.guard = none) (hx : a.eval x = .pointer (some ⟨g, i, none⟩))
    (h : wpList P ops Q rest (a.put o.dst (.agg us.toArray)) w) : wpList P ops Q (o :: rest) a w := by
  refine wpList_plain hgd fun K hK => ?_
  unfold Oper.wp execOp
  simp only [ho, hx, Instr.loadAt, Instr.sureAddr, Sem.run_bind, Sem.run_pure, Result.andThen_ok, run_loadPart hr hn hg hu]
  exact hK _ _ h
theorem exec_loadPart {P : Program} {vs us : List Value} {T ty : TypeId} {x : Operand} {g i n : Nat} {o : Oper} {ρ : Operand → Value} {W : World} (hr : rowOf P ty n = true) (hn : us.length = n) (hg : Box W g vs T) (hu : (vs.drop i).take n = us)
    (ho : o.op = .load ty x) (hx : ρ x = .pointer (some ⟨g, i, none⟩)) : (execOp ρ o).run P W = .ok (.value (.agg us.toArray)) W := by
  unfold execOp
  simp only [ho, hx, Instr.loadAt, Instr.sureAddr, Sem.run_bind, Sem.run_pure, Result.andThen_ok, run_loadPart hr hn hg hu]
def KeepAt (S : List Nat) (W W' : World) : Prop := W.heap.size ≤ W'.heap.size ∧ ∀ k ∈ S, k < W.heap.size → W'.heap[k]? = W.heap[k]?
theorem KeepAt.refl (S : List Nat) (W : World) : KeepAt S W W := ⟨Nat.le_refl _, fun _ _ _ => rfl⟩
theorem KeepAt.trans {S : List Nat} {A B C : World} (h : KeepAt S A B) (k : KeepAt S B C) : KeepAt S A C :=
  ⟨Nat.le_trans h.1 k.1, fun i hi hl => (k.2 i hi (Nat.lt_of_lt_of_le hl h.1)).trans (h.2 i hi hl)⟩
theorem KeepAt.of {S : List Nat} {A B : World} (h : Gr A B) : KeepAt S A B := ⟨h.size, fun _ _ hl => h.block _ hl⟩
theorem KeepAt.only {S : List Nat} {A B : World} {b : Nat} (h : Only b A B) (hb : b ∉ S) : KeepAt S A B := ⟨h.size, fun k hk hl => h.keep k (fun e => hb (e ▸ hk)) hl⟩
theorem KeepAt.box {S : List Nat} {A B : World} (h : KeepAt S A B) {b : Nat} {vs : List Value} {T : TypeId} (hb : Box A b vs T) (hq : b ∈ S) : Box B b vs T := (h.2 b hq hb.lt).trans hb
theorem KeepAt.putObj {S : List Nat} (W : World) (l : Nat) (o' : Obj) (h : l ∉ S) : KeepAt S W (W.putObj l o') :=
  ⟨(grownBy_putObj' W l o').size, fun k hk hl => (grownBy_putObj' W l o').block k hl fun e => h ((Option.some.inj e) ▸ hk)⟩
theorem KeepAt.set {S : List Nat} (W : World) (b i : Nat) (v : Value) (h : b ∉ S) : KeepAt S W (W.setCell ⟨b, i, none⟩ v) :=
  ⟨by simp, fun k hk _ => Below.heap_setCell _ _ _ _ (fun (e : k = b) => h (e ▸ hk))⟩
theorem KeepAt.mono {S S' : List Nat} {A B : World} (h : KeepAt S A B) (hs : ∀ k ∈ S', k ∈ S) : KeepAt S' A B := ⟨h.1, fun k hk hl => h.2 k (hs k hk) hl⟩

theorem YieldAt.depth {F : Fence} {n m : Nat} {P : Program} {l : Nat} {args : Array Value} {W : World} {R : Ending → World → Prop} (hd : F.depth = none) (h : YieldAt F n P l args W R) : YieldAt F m P l args W R := by
  obtain ⟨fn, tmps, assign, body, hy, hf, hR⟩ := h
  exact ⟨fn, tmps, assign, body, hy, hf, fun c cs _ => hR c cs fun d h => by rw [hd] at h; cases h⟩
theorem CallsIn.depth {F : Fence} {n m : Nat} {P : Program} {f : FuncId} {args : Array Value} {w : World} {R : Ending → World → Prop} (hd : F.depth = none) (h : CallsIn F n P f args w R) : CallsIn F m P f args w R :=
  ⟨h.1, fun cs _ => h.2 cs fun d h => by rw [hd] at h; cases h⟩
theorem SeqStopsK.depth {α : Type} {F : Fence} {n m : Nat} {P : Program} {g : Nat} {lb : Array Value} {encs : α → Array Value} {Kp : World → World → Prop} {S Sp : List α → Prop} {N : Nat} {w : World} (hd : F.depth = none)
    (h : SeqStopsK F n P g lb encs Kp S Sp N w) : SeqStopsK F m P g lb encs Kp S Sp N w := fun y J Jx W hW hAJ hAX hY h0 =>
  CallsIn.depth hd (h y J Jx W hW hAJ hAX (fun pre x W1 hJ hN => YieldAt.depth hd (hY pre x W1 hJ hN)) h0)

theorem wpListIn_stopLoad {F : Fence} {m : Nat} {P : Program} {ops : Array Oper} {rest : List Oper} {o : Oper} {a : Act} {w : World} {Q : Exit → Act → World → Prop} {ty : TypeId} {x : Operand} (_ : o.op = .load ty x) (h : Stop (wpListIn F m P ops Q (o :: rest) a w)) : wpListIn F m P ops Q (o :: rest) a w := h
/-- Some cells of a block, read as a row, inside a fence. -/
theorem wpListIn_loadPart {F : Fence} {m : Nat} {P : Program} {ops : Array Oper} {rest : List Oper} {o : Oper} {a : Act} {w : World} {Q : Exit → Act → World → Prop} {vs us : List Value} {T ty : TypeId} {x : Operand} {g i n : Nat} (hr : rowOf P ty n = true) (hn : us.length = n) (hg : Box w g vs T) (hu : (vs.drop i).take n = us)
    (ho : o.op = .load ty x) (hgd : o.guard = none) (hx : a.eval x = .pointer (some ⟨g, i, none⟩))
    (h : wpListIn F m P ops Q rest (a.put o.dst (.agg us.toArray)) w) : wpListIn F m P ops Q (o :: rest) a w := by
  refine wpListIn_plain hgd fun K hK => ⟨fun f hf => by simp [Oper.about, ho] at hf, ?_⟩
  rw [Oper.semAt_eq _ _ _ (fun c => by rw [ho]; exact fun h => by cases h), exec_loadPart hr hn hg hu ho hx]
  exact hK _ _ h
/-- The same behind a guard that says yes. -/
theorem wpListIn_loadPartG {F : Fence} {m : Nat} {P : Program} {ops : Array Oper} {rest : List Oper} {o : Oper} {a : Act} {w : World} {Q : Exit → Act → World → Prop} {vs us : List Value} {T ty : TypeId} {x : Operand} {g i n : Nat} (hr : rowOf P ty n = true) (hn : us.length = n) (hg : Box w g vs T) (hu : (vs.drop i).take n = us)
    (ho : o.op = .load ty x) (hw : Region.wanted o (yielded ops a.tmps) = true) (hx : a.eval x = .pointer (some ⟨g, i, none⟩))
    (h : wpListIn F m P ops Q rest (a.put o.dst (.agg us.toArray)) w) : wpListIn F m P ops Q (o :: rest) a w := by
  refine BigFrame.wpListIn_want hw fun K hK => ⟨fun f hf => by simp [Oper.about, ho] at hf, ?_⟩
  rw [Oper.semAt_eq _ _ _ (fun c => by rw [ho]; exact fun h => by cases h), exec_loadPart hr hn hg hu ho hx]
  exact hK _ _ h
end Go.Proofs.Ytjlaoiimbhlafaa
namespace Go.Proofs.Ytjlaoiimbhlafaa
open Go.RowKit Go.Shelf

/-! An iterator that ranges over iterators itself: its own loops' records turn while it runs. So what is asked of it is kept of predicates that abide the turn of any block without cells that was laid since its call began. -/
def SeqStopsO {α : Type} (F : Fence) (n : Nat) (P : Program) (g : Nat) (lb : Array Value) (encs : α → Array Value) (Kp : World → World → Prop) (S Sp : List α → Prop) (N B : Nat) (w : World) : Prop :=
  ∀ (y : Nat) (J Jx : List α → World → Prop) (W : World), Gr w W → B ≤ W.heap.size → OwnFrom W.heap.size J → OwnFrom W.heap.size Jx →
    (∀ pre x A, J pre A → pre.length < N → YieldAt F (n - 1) P y (encs x) A fun e B =>
      (e = .returned (.bool true) ∧ J (pre ++ [x]) B ∧ Kp A B) ∨ (e = .returned (.bool false) ∧ Jx (pre ++ [x]) B)) →
    J [] W → CallsIn F n P g (#[.func (.yield y) #[] #[]] ++ lb) W fun e B => (∃ v, e = .returned v) ∧ ((∃ xs, S xs ∧ J xs B) ∨ (∃ pre, Sp pre ∧ Jx pre B))

section
variable {F : Fence} {n : Nat} {P : Program}
/-- The two blocks that a loop lays: for the rounds' deferred calls, and its record. -/
structure Kept (D : Nat) (r : Loop) (W : World) : Prop where
  record : W.heap[D + 1]? = some (.loop r)
  calls : W.heap[D]? = some (.deferred (some []))
theorem Kept.grown {D : Nat} {r : Loop} {A B : World} {row : Option Nat} (h : Kept D r A) (hg : A.grownBy B row) (hr : ∀ i, row = some i → D + 2 ≤ i) : Kept D r B :=
  ⟨(hg.block _ (Array.getElem?_eq_some_iff.1 h.record).1 (fun e => by have := hr _ e.symm; omega)).trans h.record, (hg.block _ (Array.getElem?_eq_some_iff.1 h.calls).1 (fun e => by have := hr _ e.symm; omega)).trans h.calls⟩
theorem Kept.from {D : Nat} {r : Loop} {A B : World} (h : Kept D r A) (hk : KeepsFrom D A B) : Kept D r B := ⟨hk.same _ _ (by omega) h.record rfl, hk.same _ _ (Nat.le_refl _) h.calls rfl⟩
theorem Kept.turn {D : Nat} {r : Loop} {A : World} (h : Kept D r A) (r' : Loop) : Kept D r' (A.putObj (D + 1) (.loop r')) :=
  ⟨World.putObj_heap_same (Array.getElem?_eq_some_iff.1 h.record).1, (World.putObj_heap_other (by omega)).trans h.calls⟩
/-- The law of a range over such an iterator, at an outermost loop. -/
theorem wpIn_rangeOwn {α : Type} {g : Operand} {ps : Array Tmp} {assign body : Code} {Q : Exit → Act → World → Prop} {a : Act} {w : World}
    (hro : F.round = none) (h1 : 1 ≤ n) {gf : Nat} {lb : Array Value} (hg : a.eval g = .func (.func gf) #[] lb) (hFg : F.fn gf) (eg : ∀ args w, (callFunc gf args).run P w = .ok (.enter gf args) w)
    {encs : α → Array Value} {Kp : World → World → Prop} {S Sp : List α → Prop} {N : Nat} {w0 : World} (hseq : SeqStopsO F (n - 1) P gf lb encs Kp S Sp N (w.heap.size + 2) w0) (hw0 : Gr w0 w)
    (hKt : ∀ {A B C : World}, Kp A B → Kp B C → Kp A C) (hKb : ∀ (W : World) (o' : Obj), Kp W (W.putObj (w.heap.size + 1) o')) (hps : ∀ x, (encs x).size = ps.size)
    (I : List α → World → Prop) (Ix : Code → List α → World → Prop) (hI : OwnFrom w.heap.size I) (hIx : ∀ c, OwnFrom w.heap.size (Ix c)) (h0 : I [] w)
    (Ax : α → Act → World → Prop) (hAx : ∀ x a', OwnFrom w.heap.size (fun (_ : Unit) W => Ax x a' W))
    (hassign : ∀ (l : Nat) (pre : List α) (x : α) (W : World) (K : Act → World → Prop), I pre W → (∀ a' W', KeepsFrom w.heap.size W W' → Kp W W' → I pre W' → Ax x a' W' → K a' W') →
      assign.wpIn (F.inRound l) (n - 1 - 1) P (Exit.then K (fun _ _ _ => False)) { tmps := (ps.zip (encs x)).foldl (fun t (p, v) => t.setIfInBounds p v) a.tmps, defers := [] } W)
    (hbody : ∀ (l : Nat) (pre : List α) (x : α) (a' : Act) (W : World), w.heap.size ≤ l → (∃ r, W.heap[l]? = some (.loop r)) → I pre W → Ax x a' W → pre.length < N → body.wpIn (F.inRound l) (n - 1 - 1) P (ownPostG w.heap.size Kp I Ix (pre ++ [x]) W) a' W)
    (hdone : ∀ (D : Nat) (xs : List α) (W : World), w.heap.size ≤ D → S xs → I xs W → W.heap[D]? = some (.deferred (some [])) → Q .normal { a with defers := { target := .collected D, args := #[] } :: a.defers } W)
    (hstop : ∀ (D : Nat) (c : Code) (pre : List α) (W : World), w.heap.size ≤ D → Sp pre → Ix c pre W → W.heap[D]? = some (.deferred (some [])) → c.wpIn F n P Q { a with defers := { target := .collected D, args := #[] } :: a.defers } W) :
    (Code.rangeFunc g ps assign body).wpIn F n P Q a w := by
  refine wpIn_rangeFunc fun fn hfn => ?_
  rw [hro]
  have hrun := run_enterLoop_outer (P := P) (w := w) fn a.tmps ps assign body
  generalize hD : w.heap.size = D at *
  obtain ⟨rec, hrec⟩ : ∃ rec : LoopState → Option Code → Loop, rec = fun st pe => { state := st, pending := pe, fn, tmps := a.tmps, params := ps, assign, body, defers := D } := ⟨_, rfl⟩
  obtain ⟨W1, hW1⟩ : ∃ W1, (w.alloc (.deferred (some []))).alloc (.loop (rec .ready none)) = W1 := ⟨_, rfl⟩
  have hsz : W1.heap.size = D + 2 := by rw [← hW1]; simp [hD]
  have hk1 : Kept D (rec .ready none) W1 := by
    rw [← hW1, ← hD]
    refine ⟨?_, (Below.heap_alloc _ _ _ (by simp)).trans (World.alloc_heap_new w _)⟩
    have := World.alloc_heap_new (w.alloc (.deferred (some []))) (.loop (rec .ready none))
    rwa [World.size_alloc] at this
  have hi1 : I [] W1 := by rw [← hW1]; exact hI.alloc _ (hI.alloc _ h0)
  have hg1 : Gr w0 W1 := by rw [← hW1]; exact (hw0.tr (Gr.alloc _ _)).tr (Gr.alloc _ _)
  have hst : ∀ (st : LoopState) (pe : Option Code), ({ state := st, pending := pe, fn, tmps := a.tmps, params := ps, assign, body, defers := D } : Loop) = rec st pe := fun st pe => by rw [hrec]
  refine ⟨D + 1, [{ target := .collected D, args := #[] }], W1, { target := .fn (.func gf) lb, args := #[.func (.yield (D + 1)) #[] #[]] }, W1, gf, #[.func (.yield (D + 1)) #[] #[]] ++ lb, W1, ?_, ?_, ?_, ?_, fun _ => h1, ?_⟩
  · rw [hrun, ← hW1, ← hst]
  · simp only [resolve, hg]
    simp [go_sem]
  · intro f' hf'; simp [Target.leads] at hf'; subst hf'; exact hFg
  · simp [invoke, go_sem, eg]
  have own : ∀ {row : Option Nat} {A : World}, (∀ r, row = some r → W1.heap.size ≤ r ∧ ∃ o : Obj, A.heap[r]? = some o ∧ o.isCells = false) → (∀ r, row = some r → D ≤ r ∧ ∃ o : Obj, A.heap[r]? = some o ∧ o.isCells = false) := fun h r e => ⟨by have := (h r e).1; omega, (h r e).2⟩
  refine (hseq (D + 1) (fun pre W => I pre W ∧ Kept D (rec .ready none) W) (fun pre W => ∃ c, Ix c pre W ∧ Kept D (rec .done (some c)) W) W1 hg1 (by omega)
    (fun s A B row h hgr hr => ⟨hI s A B row h.1 hgr (own hr), h.2.grown hgr fun i e => by have := (hr i e).1; omega⟩)
    (fun s A B row ⟨c, h, hk⟩ hgr hr => ⟨c, hIx c s A B row h hgr (own hr), hk.grown hgr fun i e => by have := (hr i e).1; omega⟩)
    ?_ ⟨hi1, hk1⟩).mono ?_
  · rintro pre x W ⟨hi, hk⟩ hlen
    have hy := run_yield (P := P) (args := encs x) hk.record (by rw [hrec]; exact hps x)
    rw [hrec] at hy
    refine ⟨fn, _, assign, body, hy, roundIn_of_wpIn hfn (hassign _ pre x W _ hi fun a' A hka hpa hia hax => ?_)⟩
    have hkA := hk.from hka
    refine ⟨_, run_beginRound hkA.record (by rw [hrec]), ?_⟩
    have hkB := hkA.turn { rec .ready none with state := .busy }
    have hpB := hpa |> fun h => hKt h (hKb A (.loop { rec .ready none with state := .busy }))
    refine wpIn_mono (hbody _ pre x a' _ (by omega) ⟨_, hkB.record⟩ (hI.putObj _ hia (by omega) hkA.record rfl) ((hAx x a').putObj (s := ()) _ hax (by omega) hkA.record rfl) hlen) ?_
    have leave : ∀ (jump : Option Code) (C : World), KeepsFrom D (A.putObj (D + 1) (.loop { rec .ready none with state := .busy })) C →
        (Instr.endRound (D + 1) jump).run P C = .ok (.bool jump.isNone) (C.putObj (D + 1) (.loop (rec (if jump.isNone then .ready else .done) jump))) ∧
        Kept D (rec (if jump.isNone then .ready else .done) jump) (C.putObj (D + 1) (.loop (rec (if jump.isNone then .ready else .done) jump))) ∧ C.heap[D + 1]? = some (.loop { rec .ready none with state := .busy }) := fun jump C hC => by
      have hkC := hkB.from hC
      have h := run_endRound (P := P) jump hkC.record
      have ht := hkC.turn (rec (if jump.isNone then .ready else .done) jump)
      refine ⟨?_, ht, hkC.record⟩
      rw [hrec] at h ⊢
      exact h
    rintro e a3 C hp
    cases e with
    | normal =>
      obtain ⟨hC, hpC, hiC⟩ := hp
      obtain ⟨hr, hkC, hrC⟩ := leave none C hC
      exact ⟨_, _, hr, .inl ⟨rfl, ⟨hI.putObj _ hiC (by omega) hrC rfl, hkC⟩, hKt (hKt hpB hpC) (hKb _ _)⟩⟩
    | ret =>
      obtain ⟨hr, hkC, hrC⟩ := leave (some .ret) C hp.1
      exact ⟨_, _, hr, .inr ⟨rfl, .ret, (hIx _).putObj _ hp.2 (by omega) hrC rfl, hkC⟩⟩
    | exit id =>
      obtain ⟨hr, hkC, hrC⟩ := leave (some (.exit id)) C hp.1
      exact ⟨_, _, hr, .inr ⟨rfl, .exit id, (hIx _).putObj _ hp.2 (by omega) hrC rfl, hkC⟩⟩
    | goto t =>
      obtain ⟨hr, hkC, hrC⟩ := leave (some (.goto t)) C hp.1
      exact ⟨_, _, hr, .inr ⟨rfl, .goto t, (hIx _).putObj _ hp.2 (by omega) hrC rfl, hkC⟩⟩
    | panic ch => exact hp.elim
    | outgrown => exact hp.elim
  · have fin : ∀ (pe : Option Code) (st : LoopState) (C : World), st ≠ .busy → Kept D (rec st pe) C → ∃ C', (Instr.endLoop (D + 1)).run P C = .ok pe C' ∧ ∃ o, C' = C.putObj (D + 1) o := fun pe st C hs hk => by
      have h := run_endLoop (P := P) hk.record (by rw [hrec]; simpa using hs)
      have hp : (rec st pe).pending = pe := by rw [hrec]
      rw [hp] at h
      exact ⟨_, h, _, rfl⟩
    rintro e C ⟨⟨v, rfl⟩, (⟨xs, hS, hi, hk⟩ | ⟨pre, hSp, c, hi, hk⟩)⟩
    · obtain ⟨C', hr, ob, rfl⟩ := fin none .ready C (by simp) hk
      exact ⟨none, _, hr, hdone _ xs _ (Nat.le_refl _) hS (hI.putObj _ hi (by omega) hk.record rfl) ((World.putObj_heap_other (by omega)).trans hk.calls)⟩
    · obtain ⟨C', hr, ob, rfl⟩ := fin (some c) .done C (by simp) hk
      exact ⟨some c, _, hr, hstop _ c pre _ (Nat.le_refl _) hSp ((hIx c).putObj _ hi (by omega) hk.record rfl) ((World.putObj_heap_other (by omega)).trans hk.calls)⟩
end
end Go.Proofs.Ytjlaoiimbhlafaa
namespace Go.Proofs.Ytjlaoiimbhlafaa
open Go.RowKit Go.Shelf

theorem Gr.gro {w w' : World} (h : Gr w w') : w.grownBy w' none := ⟨h.os, h.tape, h.output, h.size, fun k hk _ => h.block k hk⟩
theorem Box.gro {w w' : World} {b : Nat} {vs : List Value} {T : TypeId} {row : Option Nat} (h : Box w b vs T) (hg : w.grownBy w' row) (hne : some b ≠ row) : Box w' b vs T := by
  have h1 := hg.block b h.lt hne
  unfold Box at *
  rw [h1]
  exact h
theorem keepsO {A B : World} (h : Gr A B) : KeepsOthers A B := ⟨h.size, fun k _o hk _ => (h.block k (Array.getElem?_eq_some_iff.1 hk).1).trans hk⟩
theorem SeqStopsK.own {α : Type} {F : Fence} {n : Nat} {P : Program} {g : Nat} {lb : Array Value} {encs : α → Array Value} {Kp : World → World → Prop} {S Sp : List α → Prop} {N B : Nat} {w : World}
    (h : SeqStopsK F n P g lb encs Kp S Sp N w) : SeqStopsO F n P g lb encs Kp S Sp N B w := fun y J Jx W hW _ hJ hX hY h0 =>
  have walk : ∀ {row : Option Nat} {A : World}, (∀ r, row = some r → W.heap.size ≤ r ∧ ∃ o : Obj, A.heap[r]? = some o ∧ o.isWalk = true) → (∀ r, row = some r → W.heap.size ≤ r ∧ ∃ o : Obj, A.heap[r]? = some o ∧ o.isCells = false) := fun hr r e => by
    obtain ⟨hB, o, ho, hw⟩ := hr r e
    exact ⟨hB, o, ho, Obj.not_cells_of_walk hw⟩
  h y J Jx W hW (fun s A B row hs hg hr => hJ s A B row hs hg (walk hr)) (fun s A B row hs hg hr => hX s A B row hs hg (walk hr)) hY h0
theorem Box.own' {W W' : World} {row : Option Nat} {b : Nat} {vs : List Value} {T : TypeId} (h : Box W b vs T) (hg : W.grownBy W' row) (hr : ∀ r, row = some r → ∃ o : Obj, W.heap[r]? = some o ∧ o.isCells = false) : Box W' b vs T :=
  h.gro hg fun e => by
    obtain ⟨o, ho, hc⟩ := hr b e.symm
    unfold Box at h
    rw [h] at ho
    cases ho
    cases hc
theorem ownFrom_box {β : Type} (B b : Nat) (vs : β → List Value) (T : TypeId) : OwnFrom B (fun s W => Box W b (vs s) T) := fun _ _ _ _ hs hg hr => hs.own' hg fun r e => (hr r e).2
theorem Only.own {b : Nat} {w A A' : World} {row : Option Nat} {B : Nat} (h : Only b w A) (hB : w.heap.size ≤ B) (hb : b < w.heap.size) (hg : A.grownBy A' row) (hr : ∀ r, row = some r → B ≤ r ∧ ∃ o : Obj, A.heap[r]? = some o ∧ o.isCells = false) : Only b w A' :=
  ⟨ownFrom_below (β := Unit) (n₀ := b) (w₀ := w) (by omega) (show b ≤ B by omega) () A A' row h.low hg hr, Nat.le_trans h.size hg.size, fun k hk hl => (hg.block k (Nat.lt_of_lt_of_le hl h.size) (fun e => by have := (hr k e.symm).1; omega)).trans (h.keep k hk hl)⟩
theorem Only.from {b : Nat} {A A' : World} (h : Only b A A') {B : Nat} (hb : b < B) : KeepsFrom B A A' := ⟨h.size, fun k o hk ho _ => (h.keep k (by omega) (Array.getElem?_eq_some_iff.1 ho).1).trans ho⟩
end Go.Proofs.Ytjlaoiimbhlafaa
namespace Go.Proofs.Ytjlaoiimbhlafaa
open Go.RowKit

/-! The rule for a region whose order is open, where nothing turns but one block, of which something is kept. -/
/-- A block, and what is kept of it. -/
structure Mk where
  b : Nat
  G : Obj → Prop
/-- Nothing that is there turns but the block of A, which stays as is wanted. -/
structure Dr (A : Mk) (i : Nat) (w W : World) : Prop where
  os : W.os = w.os
  tape : W.tape = w.tape
  output : W.output = w.output
  size : w.heap.size ≤ W.heap.size
  block : ∀ k, k < w.heap.size → k ≠ A.b → W.heap[k]? = w.heap[k]?
  kept : ∀ o, w.heap[A.b]? = some o → A.G o → ∃ o', W.heap[A.b]? = some o' ∧ A.G o'
theorem Dr.same (A : Mk) (w : World) : Dr A 0 w w := ⟨rfl, rfl, rfl, Nat.le_refl _, fun _ _ _ => rfl, fun o h g => ⟨o, h, g⟩⟩
theorem Dr.le {A : Mk} {i j : Nat} {w W : World} (h : Dr A i w W) (_ : i ≤ j) : Dr A j w W := ⟨h.os, h.tape, h.output, h.size, h.block, h.kept⟩
theorem Dr.any {A : Mk} {i j : Nat} {w W : World} (h : Dr A i w W) : Dr A j w W := ⟨h.os, h.tape, h.output, h.size, h.block, h.kept⟩
theorem Dr.tr {A : Mk} {i j : Nat} {a b c : World} (h : Dr A i a b) (k : Dr A j b c) : Dr A (i + j) a c := ⟨k.os.trans h.os, k.tape.trans h.tape, k.output.trans h.output, Nat.le_trans h.size k.size, fun x hx hA => (k.block x (Nat.lt_of_lt_of_le hx h.size) hA).trans (h.block x hx hA), fun o ho hg => by
  obtain ⟨o', h1, h2⟩ := h.kept o ho hg
  exact k.kept o' h1 h2⟩
theorem Dr.of {A : Mk} {w W : World} (h : Gr w W) : Dr A 0 w W := ⟨h.os, h.tape, h.output, h.size, fun k hk _ => h.block k hk, fun o ho hg => ⟨o, (h.block _ (Array.getElem?_eq_some_iff.1 ho).1).trans ho, hg⟩⟩
theorem Dr.drew (A : Mk) (w : World) : Dr A 0 w w.drew := Dr.of (Gr.drew w)
/-- A block other than A's stays. -/
theorem Dr.box {A : Mk} {i : Nat} {w W : World} (h : Dr A i w W) {b : Nat} {vs : List Value} {T : TypeId} (hb : Box w b vs T) (hA : b ≠ A.b) : Box W b vs T := by
  have := h.block b hb.lt hA
  unfold Box at *
  rw [this]; exact hb
theorem Dr.below {A : Mk} {i B : Nat} {w0 w W : World} (h : Dr A i w W) (hb : Below B w0 w) (hB : B ≤ w.heap.size) (hA : B ≤ A.b) : Below B w0 W :=
  ⟨h.os.trans hb.os, h.tape.trans hb.tape, h.output.trans hb.output, Nat.le_trans hb.size h.size, fun k hk => (h.block k (Nat.lt_of_lt_of_le hk hB) (by omega)).trans (hb.block k hk)⟩
namespace Dw

def Lasts (A : Mk) (κ : Nat) (V : Value → World → Prop) : Prop := ∀ v W W', V v W → Dr A κ W W' → V v W'
theorem Lasts.eq {A : Mk} {κ : Nat} (c : Value) : Lasts A κ (fun v _ => v = c) := fun _ _ _ h _ => h

/-- What an operation does, of which its value alone is asked. -/
def Gives (A : Mk) (κ : Nat) (P : Program) (W : World) (V : Value → World → Prop) (Pan : List PanicEntry → World → Prop) : Result Next → Prop
  | .ok (.value v) w' => V v w' ∧ Dr A κ W w'
  | .ok .skip w' => V undef w' ∧ Dr A κ W w'
  | .ok (.enter f args) w' => Gr W w' ∧ Calls P f args w' fun e w'' => match e with
      | .returned v => V v w'' ∧ Dr A κ w' w''
      | .panicked c => Pan c w''
      | .outgrown => False
  | .halt (.panic v) w' => Pan [{ v, recovered := false }] w'
  | _ => False

section
variable {P : Program} {ops : Array Oper} {Q : Exit → Act → World → Prop} {md : Region.Mode} {A : Mk} {κ : Nat}

def Step (A : Mk) (κ : Nat) (P : Program) (ops : Array Oper) (n : Nat) (tm : Array Value) (w : World) (Pan : List PanicEntry → World → Prop) (Vs : List (Value → World → Prop)) (o : Oper) (V : Value → World → Prop) : Prop :=
  ∀ (ρ : Operand → Value) (W : World), Plain ρ → Dr A (κ * n) w W → Facts ops n Vs tm ρ W (looks ops o) →
    (Lets ops ρ o → Gives A κ P W V Pan ((execOp ρ o).run P W)) ∧ (¬ Lets ops ρ o → V undef W)

def Chain (A : Mk) (κ : Nat) (P : Program) (ops : Array Oper) (n : Nat) (tm : Array Value) (w : World) (Pan : List PanicEntry → World → Prop) : List Oper → List (Value → World → Prop) → (List (Value → World → Prop) → Prop) → Prop
  | [], Vs, fin => fin Vs
  | o :: r, Vs, fin => ∃ V, Lasts A κ V ∧ Step A κ P ops n tm w Pan Vs o V ∧ Chain A κ P ops n tm w Pan r (Vs ++ [V]) fin

structure HI (A : Mk) (κ : Nat) (ops : Array Oper) (n : Nat) (Vs : Nat → Value → World → Prop) (a : Act) (w : World) (listed : Array Bool) (a' : Act) (W : World) : Prop where
  inv : HeadInv .any ops n listed
  grow : ∃ i, i + open_ n listed ≤ n ∧ Dr A (κ * i) w W
  defers : a'.defers = a.defers
  size : a'.tmps.size = a.tmps.size
  done : ∀ i d, i < n → (ops[i]?).bind (·.dst) = some d → listed.getD i false = true → Vs i (a'.tmps.getD d undef) W
  rest : ∀ t, (∀ i, i < n → (ops[i]?).bind (·.dst) = some t → listed.getD i false = false) → a'.tmps.getD t undef = a.tmps.getD t undef

variable {n : Nat} {Vs : Nat → Value → World → Prop} {a a' : Act} {w W W' : World} {listed : Array Bool}

theorem HI.set (h : HI A κ ops n Vs a w listed a' W) (hl : ∀ i, Lasts A κ (Vs i)) {i d : Nat} {o : Oper} (hd : HeadOk ops n a.tmps.size i o d) (hin : i < n) (hr : i ∈ Region.ready .any ops listed) {v : Value} (hv : Vs i v W') (hg : Dr A κ W W') :
    HI A κ ops n Vs a w (listed.setIfInBounds i true) (a'.put (some d) v) W' := by
  have his : i < listed.size := by
    rw [h.inv.size]; exact (Array.getElem?_eq_some_iff.1 hd.op).1
  have hdd : (ops[i]?).bind (·.dst) = some d := by rw [hd.op]; exact hd.dst
  refine ⟨h.inv.set hr hin, (by
    obtain ⟨c, hc, hw⟩ := h.grow
    have ho := open_set (n := n) hin his (getD_both (mem_ready.1 hr).1)
    exact ⟨c + 1, by omega, by have := hw.tr hg; rwa [← Nat.mul_succ] at this⟩), h.defers, by simpa [Act.put] using h.size, fun j e hj hje hl' => ?_, fun t ht => ?_⟩
  · by_cases hij : i = j
    · subst hij
      have : d = e := Option.some.inj (hdd.symm.trans hje)
      subst this
      have hs : d < a'.tmps.size := by rw [h.size]; exact hd.lt
      simpa [Act.put, hs] using hv
    · rw [getD_set_ne false hij] at hl'
      have hne : d ≠ e := fun e' => hij (hd.only j hj (by rw [hje, e'])).symm
      have := hl j _ _ _ (h.done j e hj hje hl') hg
      simpa [Act.put, Array.getElem?_setIfInBounds_ne hne] using this
  · have hne : d ≠ t := fun e => by
      have := ht i hin (by rw [hdd, e])
      rw [listed_set_self his] at this
      cases this
    have := h.rest t fun j hj hjt => by
      have h1 := ht j hj hjt
      by_cases hij : i = j
      · subst hij; exact absurd (Option.some.inj (hdd.symm.trans hjt)) hne
      · rwa [getD_set_ne false hij] at h1
    simpa [Act.put, Array.getElem?_setIfInBounds_ne hne] using this

theorem HI.step (h : HI A κ ops n Vs a w listed a' W) (hl : ∀ i, Lasts A κ (Vs i)) {L : List (Value → World → Prop)} {Pan : List PanicEntry → World → Prop} {i d : Nat} {o : Oper} (hd : HeadOk ops n a.tmps.size i o d) (hin : i < n) (hr : i ∈ Region.ready .any ops listed)
    (hL : ∀ j, j < i → L.getD j (fun _ _ => True) = Vs j) (hs : Step A κ P ops n a.tmps w Pan L o (Vs i))
    (hP : ∀ c W, Pan c W → ∀ a', a'.defers = a.defers → Q (.panic c) a' W) :
    wpOp P ops Q i (HI A κ ops n Vs a w (listed.setIfInBounds i true)) a' W := by
  obtain ⟨_, oi, hoi, hall⟩ := mem_ready.1 hr
  have : oi = o := Option.some.inj (hoi.symm.trans hd.op)
  subst this
  have hf : Facts ops n L a.tmps a'.eval W (looks ops oi) := Facts.mk fun t ht => by
    unfold Fact
    cases hfl : fills ops n t with
    | none =>
      exact h.rest t fun j hj hjt => absurd hjt (fills_none hfl j hj)
    | some j =>
      obtain ⟨hjn, hjd⟩ := fills_some hfl
      obtain ⟨hji, hw⟩ := hd.sees t ht j hfl
      obtain ⟨oj, hoj, e, he, hb, hon⟩ := Region.waitsFor_spec hw
      have : oj = oi := Option.some.inj (hoj.symm.trans hd.op)
      subst this
      have h1 := hall e he hb
      rw [hon] at h1
      have h2 := h.done j t hjn hjd h1
      simp only [hL j hji]
      exact h2
  obtain ⟨s1, s2⟩ := hs a'.eval W (Plain.eval a') (by
    obtain ⟨c, hc, hw⟩ := h.grow
    exact hw.le (Nat.mul_le_mul_left κ (by omega))) hf
  unfold wpOp
  simp only [hd.op]
  by_cases hw : Region.wanted oi (yielded ops a'.tmps) = true
  · rw [if_pos hw]
    refine .inl ?_
    have h1 := s1 (lets_of_wanted.1 hw)
    unfold Oper.wp
    have key : ∀ v W', Vs i v W' → Dr A κ W W' → HI A κ ops n Vs a w (listed.setIfInBounds i true) (a'.put (some d) v) W' := fun v W' hv hg => h.set hl hd hin hr hv hg
    cases hrun : (execOp a'.eval oi).run P W with
    | ok nx w' =>
      rw [hrun] at h1
      cases nx <;> simp only [Gives] at h1 <;> simp only [Oper.upon, hd.dst]
      case value v => exact key _ _ h1.1 h1.2
      case skip => exact key _ _ h1.1 h1.2
      case enter f args =>
        refine h1.2.mono fun e w'' he => ?_
        cases e with
        | returned v => exact key _ _ he.1 (by have := (Dr.of (A := A) h1.1).tr he.2; simpa using this)
        | panicked c => exact hP _ _ he _ h.defers
        | outgrown => exact he.elim
    | halt x w' =>
      rw [hrun] at h1
      cases x <;> simp only [Gives] at h1
      case panic v => exact hP _ _ h1 _ h.defers
  · rw [if_neg hw, hd.dst]
    exact h.set hl hd hin hr (s2 fun hl' => hw (lets_of_wanted.2 hl')) ((Dr.same A W).le (by omega))

theorem wpAny_of_chain {l : List Oper} (hl : ∀ i, Lasts A κ (Vs i)) {Pan : List PanicEntry → World → Prop} (L : List (Value → World → Prop))
    (hheads : ∀ k, k < n → ∃ o d, HeadOk l.toArray n a.tmps.size k o d) (hnl : n ≤ l.length)
    (htw : ∀ listed, HeadInv .any l.toArray n listed → (∃ i, i < n ∧ listed.getD i true = false) → ∀ t, n ≤ t → t ∉ Region.ready .any l.toArray listed)
    (hseq : Region.seqB .any l.toArray (l.length - n) n (half n l.length) = true)
    (hL : ∀ j, L.getD j (fun _ _ => True) = Vs j) (hs : ∀ i o, i < n → l.toArray[i]? = some o → Step A κ P l.toArray n a.tmps w Pan (L.take i) o (Vs i))
    (hP : ∀ c W, Pan c W → ∀ a', a'.defers = a.defers → Q (.panic c) a' W)
    (hfin : ∀ a' W, HI A κ l.toArray n Vs a w (half n l.length) a' W → wpList P l.toArray Q (l.drop n) a' W) :
    ∀ (c : Nat) (listed : Array Bool) (a' : Act) (W : World), open_ n listed = c → HI A κ l.toArray n Vs a w listed a' W → wpAny P .any l.toArray Q (c + (l.length - n)) listed a' W := by
  intro c
  induction c with
  | zero =>
    intro listed a' W hc h
    have he : listed = half n l.length := by
      refine Array.ext (by rw [h.inv.size]; simp [half]) fun i h1 h2 => ?_
      have h1' : i < l.length := by have := h.inv.size; simp at this; omega
      by_cases hin : i < n
      · have := open_zero hc i hin
        simp only [Array.getD_eq_getD_getElem?, Array.getElem?_eq_getElem h1, Option.getD_some] at this
        simp [half, this, hin]
      · have := h.inv.tail i (by omega) (by simpa using h1')
        simp only [Array.getD_eq_getD_getElem?, Array.getElem?_eq_getElem h1, Option.getD_some] at this
        simp [half, this, hin]
    subst he
    have h1 := wpAny_of_seq (md := .any) (Q' := Q) (P := P) (ops := l.toArray) (l.drop n) n (half n l.length) a' W (fun j => by simp [List.getElem?_drop]) (by simpa using hseq) (hfin a' W h)
    simpa using h1
  | succ c ih =>
    intro listed a' W hc h
    rw [show c + 1 + (l.length - n) = (c + (l.length - n)) + 1 by omega]
    have hsz : listed.size = l.length := by simpa using h.inv.size
    have hex : ∃ i, i < n ∧ listed.getD i false = false := by
      apply Classical.byContradiction
      intro hno
      have : open_ n listed = 0 := by
        unfold open_
        rw [List.length_eq_zero_iff, List.filter_eq_nil_iff]
        intro i hi
        have hi' := List.mem_range.1 hi
        cases hx : listed.getD i false with
        | true => simp
        | false => exact absurd ⟨i, hi', hx⟩ hno
      omega
    have hun : ∃ i, i < n ∧ listed.getD i true = false := by
      obtain ⟨i, hi, hx⟩ := hex
      exact ⟨i, hi, getD_in (by omega) hx⟩
    have hready : Region.ready .any l.toArray listed ≠ [] := by
      obtain ⟨i, hi, hx, hleast⟩ := exists_first n hex
      obtain ⟨o, d, hd⟩ := hheads i hi
      have : i ∈ Region.ready .any l.toArray listed := by
        refine mem_ready.2 ⟨getD_in (by omega) hx, o, hd.op, fun e he hb => ?_⟩
        have := hleast e.on (hd.early e he hb)
        simpa using this
      intro h0
      rw [h0] at this
      cases this
    refine ⟨fun h0 => absurd h0 hready, fun i hi => ?_⟩
    have hin : i < n := by
      rcases Nat.lt_or_ge i n with h' | h'
      · exact h'
      · exact absurd hi (htw listed h.inv hun i h')
    obtain ⟨o, d, hd⟩ := hheads i hin
    have hLi : ∀ j, j < i → (L.take i).getD j (fun _ _ => True) = Vs j := fun j hj => by
      rw [← hL j]
      simp [hj]
    refine wpOp_mono (fun a'' W'' h' => ih _ a'' W'' ?_ h') (h.step hl hd hin hi hLi (hs i o hin hd.op) hP)
    have h1 := open_set (n := n) hin (by omega : i < listed.size) (getD_both (mem_ready.1 hi).1)
    omega

theorem chain_vs {l : List Oper} {Pan : List PanicEntry → World → Prop} {fin : List (Value → World → Prop) → Prop} {tm : Array Value} : ∀ (r : List Oper) (i : Nat) (Ls : List (Value → World → Prop)), Ls.length = i → (∀ V ∈ Ls, Lasts A κ V) → (∀ j o, j < i → l.toArray[j]? = some o → Step A κ P l.toArray n tm w Pan (Ls.take j) o (Ls.getD j fun _ _ => True)) →
    (∀ j, j < r.length → r[j]? = l.toArray[i + j]?) → Chain A κ P l.toArray n tm w Pan r Ls fin →
    ∃ L : List (Value → World → Prop), L.length = i + r.length ∧ (∀ V ∈ L, Lasts A κ V) ∧ (∀ j o, j < i + r.length → l.toArray[j]? = some o → Step A κ P l.toArray n tm w Pan (L.take j) o (L.getD j fun _ _ => True)) ∧ fin L
  | [], i, Ls, h1, h2, h3, _, h => ⟨Ls, by simpa using h1, h2, by simpa using h3, h⟩
  | o :: r, i, Ls, h1, h2, h3, h4, h => by
    obtain ⟨V, hV, hst, hrest⟩ := h
    have h0 : l.toArray[i]? = some o := by simpa using (h4 0 (by simp)).symm
    have := chain_vs (l := l) r (i + 1) (Ls ++ [V]) (by simp [h1]) (fun X hX => by
      rcases List.mem_append.1 hX with hX | hX
      · exact h2 X hX
      · have : X = V := by simpa using hX
        subst this; exact hV) (fun j o' hj ho' => by
        by_cases hji : j = i
        · subst hji
          have : o' = o := Option.some.inj (ho'.symm.trans h0)
          subst this
          have e1 : (Ls ++ [V]).take j = Ls := by rw [← h1]; simp
          have e2 : (Ls ++ [V]).getD j (fun _ _ => True) = V := by rw [← h1]; simp
          rw [e1, e2]; exact hst
        · have hj' : j < i := by omega
          have := h3 j o' hj' ho'
          have e1 : (Ls ++ [V]).take j = Ls.take j := by rw [List.take_append_of_le_length (by omega)]
          have e2 : (Ls ++ [V]).getD j (fun _ _ => True) = Ls.getD j (fun _ _ => True) := by
            simp [List.getElem?_append_left (show j < Ls.length by omega)]
          rw [e1, e2]; exact this) (fun j hj => by
        have := h4 (j + 1) (by simp; omega)
        simpa [Nat.add_assoc, Nat.add_comm 1 j] using this) hrest
    obtain ⟨L, l1, l2, l3, l4⟩ := this
    exact ⟨L, by simp; omega, l2, fun j o' hj => l3 j o' (by simp at hj; omega), l4⟩

/-- A region whose order is open, its first n operations in the text's order; then the others, one after the other. -/
theorem region_chain {id : Nat} {l : List Oper} (n : Nat) (hm : P.follows .mixedOrders = true) (hok : regionOk l.toArray n a.tmps.size = true)
    (h : Chain A κ P l.toArray n a.tmps w.drew (fun c W => ∀ a', a'.defers = a.defers → Q (.panic c) a' W) (l.take n) [] fun L =>
      ∀ (vs : Nat → Value) (W : World), Dr A (κ * n) w W → (∀ i, i < n → (L.getD i fun _ _ => True) (vs i) W) → wpList P l.toArray Q (l.drop n) (lay l.toArray vs n a) W) :
    (Code.region id l.toArray true).wp P Q a w := by
  simp only [regionOk, Bool.and_eq_true, Bool.or_eq_true, decide_eq_true_eq] at hok
  obtain ⟨⟨⟨hn, hh⟩, ht⟩, hseq⟩ := hok
  have hnl : n ≤ l.length := by simpa using hn
  have htl : (l.take n).length = n := by simp; omega
  obtain ⟨L, l1, l2, l3, l4⟩ := chain_vs (l := l) (l.take n) 0 [] rfl (by simp) (fun j o hj => by omega) (fun j hj => by
    have hj' : j < n := by rw [htl] at hj; exact hj
    simp [hj']) h
  rw [htl] at l1 l3
  have hheads := heads_of hh
  have hlast : ∀ i, Lasts A κ (L.getD i fun _ _ => True) := fun i => by
    rcases Nat.lt_or_ge i L.length with h' | h'
    · exact l2 _ (by simp [List.getElem?_eq_getElem h'])
    · rw [show L.getD i (fun _ _ => True) = fun _ _ => True by simp [List.getElem?_eq_none h']]
      exact fun _ _ _ _ _ => trivial
  have inv0 : HeadInv .any l.toArray n (Array.replicate l.toArray.size false) :=
    ⟨by simp, fun j oj _ hl => (by rw [getD_replicate_false] at hl; cases hl), fun t _ ht => getD_in (by simpa using ht) (getD_replicate_false _ _)⟩
  have hopen : open_ n (Array.replicate l.toArray.size false) = n := by
    unfold open_
    rw [List.filter_eq_self.2 fun i _ => by rw [getD_replicate_false]; rfl]
    simp
  have h0 : HI A κ l.toArray n (fun i => L.getD i fun _ _ => True) a w.drew (Array.replicate l.toArray.size false) a w.drew :=
    ⟨inv0, ⟨0, by rw [hopen]; omega, by simpa using Dr.same A _⟩, rfl, rfl, fun i d _ _ hl => (by rw [getD_replicate_false] at hl; cases hl), fun _ _ => rfl⟩
  refine wp_region_any hm ?_
  have := wpAny_of_chain (P := P) (Q := Q) (n := n) (Vs := fun i => L.getD i fun _ _ => True) (a := a) (w := w.drew) (l := l) hlast (Pan := fun c W => ∀ a', a'.defers = a.defers → Q (.panic c) a' W) L hheads hnl
    (fun listed inv hun t htn hr => by
      rcases ht with ht | ht
      · obtain ⟨_, ot, hot, _⟩ := mem_ready.1 hr
        have := (Array.getElem?_eq_some_iff.1 hot).1
        omega
      · obtain ⟨i, hi, hx⟩ := hun
        by_cases hlt : n < l.toArray.size
        · exact tail_waits ht.1 ht.2 hlt inv _ i rfl hi hx t htn hr
        · obtain ⟨_, ot, hot, _⟩ := mem_ready.1 hr
          have := (Array.getElem?_eq_some_iff.1 hot).1
          omega)
    (by simpa using hseq) (fun _ => rfl) (fun i o hi ho => l3 i o (by omega) ho) (fun c W hp a' hd => hp a' hd)
    (fun a' W hI => by
      have e : a' = lay l.toArray (fun i => a'.tmps.getD (((l.toArray[i]?).bind (·.dst)).getD 0) undef) n a := by
        have ed : a'.defers = (lay l.toArray (fun i => a'.tmps.getD (((l.toArray[i]?).bind (·.dst)).getD 0) undef) n a).defers := by rw [lay_defers]; exact hI.defers
        have et : a'.tmps = (lay l.toArray (fun i => a'.tmps.getD (((l.toArray[i]?).bind (·.dst)).getD 0) undef) n a).tmps := by
          refine Array.ext (by rw [lay_size]; exact hI.size) fun t h1 h2 => ?_
          have h3 : t < a.tmps.size := by rw [← hI.size]; exact h1
          refine Option.some.inj ?_
          rw [← Array.getElem?_eq_getElem h1, ← Array.getElem?_eq_getElem h2]
          cases hf : fills l.toArray n t with
          | none =>
            rw [lay_other _ n a fun i hi => fills_none hf i hi]
            have := hI.rest t fun i hi hd => absurd hd (fills_none hf i hi)
            simp only [Array.getD_eq_getD_getElem?, Array.getElem?_eq_getElem h1, Array.getElem?_eq_getElem h3, Option.getD_some] at this
            rw [Array.getElem?_eq_getElem h1, Array.getElem?_eq_getElem h3, this]
          | some k =>
            obtain ⟨hk, hd⟩ := fills_some hf
            obtain ⟨o, d, hdk⟩ := hheads k hk
            have hdt : d = t := by rw [hdk.op] at hd; exact Option.some.inj (hdk.dst.symm.trans hd)
            subst hdt
            rw [lay_at _ n a hk hd h3 hdk.only, hd]
            simp only [Option.getD_some, Array.getD_eq_getD_getElem?, Array.getElem?_eq_getElem h1]
        cases a'; cases hlay : lay l.toArray _ n a
        rw [hlay] at ed et
        simp only at ed et
        rw [ed, et]
      rw [e]
      refine l4 _ W (by
        obtain ⟨c, hc, hw⟩ := hI.grow
        exact ((Dr.drew A w).tr hw).le (by have := Nat.mul_le_mul_left κ (show c ≤ n by omega); omega)) fun i hi => ?_
      obtain ⟨o, d, hd⟩ := hheads i hi
      have hdd : (l.toArray[i]?).bind (·.dst) = some d := by rw [hd.op]; exact hd.dst
      have := hI.done i d hi hdd (by simp [half, hi, show i < l.length by omega])
      simp only [hdd, Option.getD_some]
      exact this)
    n (Array.replicate l.toArray.size false) a w.drew hopen h0
  rw [show n + (l.length - n) = l.toArray.size by simp; omega] at this
  exact this

variable {tm : Array Value} {Pan : List PanicEntry → World → Prop} {o : Oper} {r : List Oper} {Ls : List (Value → World → Prop)} {fin : List (Value → World → Prop) → Prop} {k : Nat}

def Step2 (A : Mk) (κ : Nat) (P : Program) (ops : Array Oper) (n : Nat) (tm : Array Value) (w : World) (Pan : List PanicEntry → World → Prop) (Ls : List (Value → World → Prop)) (k : Nat) (o : Oper) (V : Value → World → Prop) : Prop :=
  ∃ D, (looks ops o).map (place ops n k) = D ∧ ∀ (ρ : Operand → Value) (W : World), Plain ρ → Dr A (κ * n) w W → FactsD Ls tm ρ W D →
    (Lets ops ρ o → Gives A κ P W V Pan ((execOp ρ o).run P W)) ∧ (¬ Lets ops ρ o → V undef W)

/-- The first n operations in the text's order: of each a lasting fact; the facts in a list, the newest first. -/
def Chain2 (A : Mk) (κ : Nat) (P : Program) (ops : Array Oper) (n : Nat) (tm : Array Value) (w : World) (Pan : List PanicEntry → World → Prop) : List Oper → Nat → List (Value → World → Prop) → (List (Value → World → Prop) → Prop) → Prop
  | [], _, Ls, fin => fin Ls
  | o :: r, k, Ls, fin => ∃ V, Lasts A κ V ∧ Step2 A κ P ops n tm w Pan Ls k o V ∧ Chain2 A κ P ops n tm w Pan r (k + 1) (V :: Ls) fin

theorem Chain2.chain : ∀ {r : List Oper} {k : Nat} {Ls : List (Value → World → Prop)}, Ls.length = k → Chain2 A κ P ops n tm w Pan r k Ls fin → Chain A κ P ops n tm w Pan r Ls.reverse fun L => fin L.reverse
  | [], _, _, _, h => by
    show fin (List.reverse _)
    rw [List.reverse_reverse]; exact h
  | o :: r, k, Ls, hk, h => by
    obtain ⟨V, hV, ⟨D, hD, hs⟩, hr⟩ := h
    refine ⟨V, hV, fun ρ W hp hG hF => hs ρ W hp hG (by rw [← hD]; exact FactsD.of hk hF), ?_⟩
    have := Chain2.chain (by simp [hk]) hr
    rw [List.reverse_cons] at this
    exact this

theorem Chain2.len : ∀ {r : List Oper} {k : Nat} {Ls : List (Value → World → Prop)}, Ls.length = k → Chain2 A κ P ops n tm w Pan r k Ls fin → Chain2 A κ P ops n tm w Pan r k Ls fun L => L.length = k + r.length ∧ fin L
  | [], _, _, hk, h => ⟨by simpa using hk, h⟩
  | o :: r, k, Ls, hk, h => by
    obtain ⟨V, hV, hs, hr⟩ := h
    refine ⟨V, hV, hs, ?_⟩
    have := Chain2.len (by simp [hk]) hr
    rw [show k + 1 + r.length = k + (o :: r).length by simp; omega] at this
    exact this

/-- A region whose order is open: see region_chain. -/
theorem region2 {id : Nat} {l : List Oper} (n : Nat) (hm : P.follows .mixedOrders = true) (hok : regionOk l.toArray n a.tmps.size = true)
    (h : Chain2 A κ P l.toArray n a.tmps w.drew (fun c W => ∀ a', a'.defers = a.defers → Q (.panic c) a' W) (l.take n) 0 [] fun L =>
      ∀ (vs : Nat → Value) (W : World), Dr A (κ * n) w W → Holds L n vs W → wpList P l.toArray Q (l.drop n) (lay l.toArray vs n a) W) :
    (Code.region id l.toArray true).wp P Q a w := by
  have hn : n ≤ l.length := by
    simp only [regionOk, Bool.and_eq_true, decide_eq_true_eq] at hok
    simpa using hok.1.1.1
  refine region_chain (A := A) (κ := κ) n hm hok ?_
  have h1 := Chain2.chain (k := 0) (Ls := []) rfl (Chain2.len (k := 0) (Ls := []) rfl h)
  have hmono : ∀ {f g : List (Value → World → Prop) → Prop}, (∀ L, f L → g L) → ∀ (r : List Oper) (Ls : List (Value → World → Prop)), Chain A κ P l.toArray n a.tmps w.drew (fun c W => ∀ a', a'.defers = a.defers → Q (.panic c) a' W) r Ls f → Chain A κ P l.toArray n a.tmps w.drew (fun c W => ∀ a', a'.defers = a.defers → Q (.panic c) a' W) r Ls g := by
    intro f g hfg r
    induction r with
    | nil => intro Ls hc; exact hfg _ hc
    | cons o r ih => intro Ls ⟨V, hV, hs, hr⟩; exact ⟨V, hV, hs, ih _ hr⟩
  refine hmono (fun L hL => ?_) _ _ h1
  obtain ⟨hlen, hf⟩ := hL
  intro vs W hg hv
  have hl : L.reverse.length = n := by rw [hlen]; simp; omega
  refine hf vs W hg ?_
  have := Holds.of (Ls := L.reverse) (vs := vs) (W := W) fun i hi => by
    rw [List.reverse_reverse]; exact hv i (by omega)
  rwa [hl] at this

variable {D : List (Tmp × Option Nat)} {V : Value → World → Prop}
/-- An operation of whose value a lasting fact is known. -/
theorem chain_any (hg : o.guard = none) (hD : (looks ops o).map (place ops n k) = D) (hV : Lasts A κ V) (h : ∀ (ρ : Operand → Value) (W : World), Plain ρ → Dr A (κ * n) w W → FactsD Ls tm ρ W D → ∀ K : Result Next → Prop, (∀ r, Gives A κ P W V Pan r → K r) → K ((execOp ρ o).run P W))
    (hr : Chain2 A κ P ops n tm w Pan r (k + 1) (V :: Ls) fin) : Chain2 A κ P ops n tm w Pan (o :: r) k Ls fin :=
  ⟨V, hV, ⟨D, hD, fun ρ W hp hG hF => ⟨fun _ => h ρ W hp hG hF _ fun _ h => h, fun hno => absurd (show Lets ops ρ o by simp [Lets, hg]) hno⟩⟩, hr⟩
/-- An operation whose value is known. -/
theorem chain_eq {c : Value} (hg : o.guard = none) (hD : (looks ops o).map (place ops n k) = D) (h : ∀ (ρ : Operand → Value) (W : World), Plain ρ → Dr A (κ * n) w W → FactsD Ls tm ρ W D → ∀ K : Result Next → Prop, (∀ r, Gives A κ P W (fun v _ => v = c) Pan r → K r) → K ((execOp ρ o).run P W))
    (hr : Chain2 A κ P ops n tm w Pan r (k + 1) ((fun v _ => v = c) :: Ls) fin) : Chain2 A κ P ops n tm w Pan (o :: r) k Ls fin := chain_any hg hD (Lasts.eq c) h hr
/-- An operation that its guard passes over. -/
theorem chain_skip (hD : (looks ops o).map (place ops n k) = D) (h : ∀ (ρ : Operand → Value) (W : World), FactsD Ls tm ρ W D → ¬ Lets ops ρ o)
    (hr : Chain2 A κ P ops n tm w Pan r (k + 1) ((fun v _ => v = undef) :: Ls) fin) : Chain2 A κ P ops n tm w Pan (o :: r) k Ls fin :=
  ⟨fun v _ => v = undef, Lasts.eq undef, ⟨D, hD, fun ρ W _ _ hF => ⟨fun hl => absurd hl (h ρ W hF), fun _ => rfl⟩⟩, hr⟩
/-- An operation that its guard lets be carried out. -/
theorem chain_let (hD : (looks ops o).map (place ops n k) = D) (hl : ∀ (ρ : Operand → Value) (W : World), FactsD Ls tm ρ W D → Lets ops ρ o) (hV : Lasts A κ V) (h : ∀ (ρ : Operand → Value) (W : World), Plain ρ → Dr A (κ * n) w W → FactsD Ls tm ρ W D → ∀ K : Result Next → Prop, (∀ r, Gives A κ P W V Pan r → K r) → K ((execOp ρ o).run P W))
    (hr : Chain2 A κ P ops n tm w Pan r (k + 1) (V :: Ls) fin) : Chain2 A κ P ops n tm w Pan (o :: r) k Ls fin :=
  ⟨V, hV, ⟨D, hD, fun ρ W hp hG hF => ⟨fun _ => h ρ W hp hG hF _ fun _ h => h, fun hno => absurd (hl ρ W hF) hno⟩⟩, hr⟩
theorem chain_leq {c : Value} (hD : (looks ops o).map (place ops n k) = D) (hl : ∀ (ρ : Operand → Value) (W : World), FactsD Ls tm ρ W D → Lets ops ρ o) (h : ∀ (ρ : Operand → Value) (W : World), Plain ρ → Dr A (κ * n) w W → FactsD Ls tm ρ W D → ∀ K : Result Next → Prop, (∀ r, Gives A κ P W (fun v _ => v = c) Pan r → K r) → K ((execOp ρ o).run P W))
    (hr : Chain2 A κ P ops n tm w Pan r (k + 1) ((fun v _ => v = c) :: Ls) fin) : Chain2 A κ P ops n tm w Pan (o :: r) k Ls fin := chain_let hD hl (Lasts.eq c) h hr
theorem chain_done (h : fin Ls) : Chain2 A κ P ops n tm w Pan [] k Ls fin := h
/-- A call whose value is known. -/
theorem gives_call {c : Value} {f : FuncId} {args : Array Value} {W : World} (h : Calls P f args W fun e W' => e = .returned c ∧ Dr A κ W W') : Gives A κ P W (fun v _ => v = c) Pan (.ok (.enter f args) W) :=
  ⟨Gr.same W, h.mono fun e W' he => by
    obtain ⟨rfl, hb⟩ := he
    exact ⟨rfl, hb⟩⟩
theorem gives_rel {f : FuncId} {args : Array Value} {W : World} (h : Calls P f args W fun e W' => (∃ v, e = .returned v ∧ V v W') ∧ Dr A κ W W') : Gives A κ P W V Pan (.ok (.enter f args) W) :=
  ⟨Gr.same W, h.mono fun e W' he => by
    obtain ⟨⟨v, rfl, hv⟩, hb⟩ := he
    exact ⟨hv, hb⟩⟩
theorem gives_gr {c : Value} {f : FuncId} {args : Array Value} {W : World} (h : Calls P f args W fun e W' => e = .returned c ∧ Below W.heap.size W W') : Gives A κ P W (fun v _ => v = c) Pan (.ok (.enter f args) W) :=
  gives_call (h.mono fun e W' he => ⟨he.1, (Dr.of he.2).le (by omega)⟩)
theorem gives_val {c : Value} {W : World} : Gives A κ P W (fun v _ => v = c) Pan (.ok (.value c) W) := ⟨rfl, (Dr.same A W).le (by omega)⟩
end
end Dw
section
variable {P : Program} {ops : Array Oper} {Q : Exit → Act → World → Prop} {md : Region.Mode}
def noDefer (o : Oper) : Bool := match o.op with | .defer _ => false | _ => true
theorem noDefer.ne {o : Oper} (h : noDefer o = true) : ∀ c, o.op ≠ .defer c := fun c e => by unfold noDefer at h; rw [e] at h; cases h
theorem RowsIn.wide {l m : Nat} {row : String} {args : Array Value} {w : World} {R : Value → World → Prop} (h : Rows P row args w R) : RowsIn (Fence.wide.inRound l) m P row args w R := fun c cs _ => by
  obtain ⟨v, w', hr, hs⟩ := h c cs
  exact ⟨v, w', hr, stepsIn_wide.2 hs⟩
theorem wpIn_of_wp {l m : Nat} {o : Oper} {a : Act} {w : World} {K : Act → World → Prop} (hd : noDefer o = true) (h : o.wp P a w K Q) : o.wpIn (Fence.wide.inRound l) m P a w K Q := by
  refine ⟨fun _ _ => trivial, ?_⟩
  rw [Oper.semAt_eq _ _ _ (noDefer.ne hd)]
  unfold Oper.wp at h
  generalize (execOp a.eval o).run P w = r at *
  cases r with
  | ok x w' =>
    cases x <;> simp only [Oper.upon, Oper.uponIn] at h ⊢ <;>
      first
        | exact h
        | exact ⟨(fun e => by cases e), CallsIn.inRound l (callsIn_wide.2 h)⟩
        | exact ⟨(fun e => by cases e), RowsIn.wide h⟩
  | halt x w' => cases x <;> simp only [Oper.upon, Oper.uponIn] at h ⊢ <;> exact h
theorem wpAnyIn_of_wpAny {l m : Nat} (hd : ops.all noDefer = true) (hQ : ¬ LetsOut Q) : ∀ (fuel : Nat) (listed : Array Bool) (a : Act) (w : World), wpAny P md ops Q fuel listed a w → wpAnyIn (Fence.wide.inRound l) m P md ops Q fuel listed a w
  | 0, _, _, _, h => h
  | fuel + 1, listed, a, w, ⟨h0, h1⟩ => ⟨h0, fun i hi => by
    have h2 := h1 i hi
    unfold wpOp at h2
    unfold wpOpIn
    cases ho : ops[i]? with
    | none => simp only [ho] at h2 ⊢; exact wpAnyIn_of_wpAny hd hQ fuel _ _ _ h2
    | some o =>
      simp only [ho] at h2 ⊢
      have hdo : noDefer o = true := by
        obtain ⟨hlt, e⟩ := Array.getElem?_eq_some_iff.1 ho
        have := Array.all_eq_true.1 hd i hlt
        rwa [e] at this
      split at h2
      · rename_i hw
        rw [if_pos hw]
        rcases h2 with h2 | h2
        · exact Oper.wpIn_mono (fun a w h => wpAnyIn_of_wpAny hd hQ fuel _ _ _ h) (wpIn_of_wp hdo h2)
        · exact absurd h2.2 hQ
      · rename_i hw
        rw [if_neg hw]
        exact ⟨fun _ _ => trivial, wpAnyIn_of_wpAny hd hQ fuel _ _ _ h2⟩⟩
end
section
variable {P : Program} {Q : Exit → Act → World → Prop} {n : Nat} {a : Act} {w : World}
theorem region_chain_any {l : List Oper} (n : Nat) (hok : regionOk l.toArray n a.tmps.size = true)
    (h : Chain P l.toArray n a.tmps w.drew (fun c W => ∀ a', a'.defers = a.defers → Q (.panic c) a' W) (l.take n) [] fun L =>
      ∀ (vs : Nat → Value) (W : World), Gr w W → (∀ i, i < n → (L.getD i fun _ _ => True) (vs i) W) → wpList P l.toArray Q (l.drop n) (lay l.toArray vs n a) W) :
    wpAny P .any l.toArray Q l.toArray.size (Array.replicate l.toArray.size false) a w.drew := by
  simp only [regionOk, Bool.and_eq_true, Bool.or_eq_true, decide_eq_true_eq] at hok
  obtain ⟨⟨⟨hn, hh⟩, ht⟩, hseq⟩ := hok
  have hnl : n ≤ l.length := by simpa using hn
  have htl : (l.take n).length = n := by simp; omega
  obtain ⟨L, l1, l2, l3, l4⟩ := chain_vs (l := l) (l.take n) 0 [] rfl (by simp) (fun j o hj => by omega) (fun j hj => by
    have hj' : j < n := by rw [htl] at hj; exact hj
    simp [hj']) h
  rw [htl] at l1 l3
  have hheads := heads_of hh
  have hlast : ∀ i, Lasts (L.getD i fun _ _ => True) := fun i => by
    rcases Nat.lt_or_ge i L.length with h' | h'
    · exact l2 _ (by simp [List.getElem?_eq_getElem h'])
    · rw [show L.getD i (fun _ _ => True) = fun _ _ => True by simp [List.getElem?_eq_none h']]
      exact fun _ _ _ _ _ => trivial
  have inv0 : HeadInv .any l.toArray n (Array.replicate l.toArray.size false) :=
    ⟨by simp, fun j oj _ hl => (by rw [getD_replicate_false] at hl; cases hl), fun t _ ht => getD_in (by simpa using ht) (getD_replicate_false _ _)⟩
  have h0 : HI l.toArray n (fun i => L.getD i fun _ _ => True) a w.drew (Array.replicate l.toArray.size false) a w.drew :=
    ⟨inv0, Gr.same _, rfl, rfl, fun i d _ _ hl => (by rw [getD_replicate_false] at hl; cases hl), fun _ _ => rfl⟩
  have hopen : open_ n (Array.replicate l.toArray.size false) = n := by
    unfold open_
    rw [List.filter_eq_self.2 fun i _ => by rw [getD_replicate_false]; rfl]
    simp
  have := wpAny_of_chain (P := P) (Q := Q) (n := n) (Vs := fun i => L.getD i fun _ _ => True) (a := a) (w := w.drew) (l := l) hlast (Pan := fun c W => ∀ a', a'.defers = a.defers → Q (.panic c) a' W) L hheads hnl
    (fun listed inv hun t htn hr => by
      rcases ht with ht | ht
      · obtain ⟨_, ot, hot, _⟩ := mem_ready.1 hr
        have := (Array.getElem?_eq_some_iff.1 hot).1
        omega
      · obtain ⟨i, hi, hx⟩ := hun
        by_cases hlt : n < l.toArray.size
        · exact tail_waits ht.1 ht.2 hlt inv _ i rfl hi hx t htn hr
        · obtain ⟨_, ot, hot, _⟩ := mem_ready.1 hr
          have := (Array.getElem?_eq_some_iff.1 hot).1
          omega)
    (by simpa using hseq) (fun _ => rfl) (fun i o hi ho => l3 i o (by omega) ho) (fun c W hp a' hd => hp a' hd)
    (fun a' W hI => by
      have e : a' = lay l.toArray (fun i => a'.tmps.getD (((l.toArray[i]?).bind (·.dst)).getD 0) undef) n a := by
        have ed : a'.defers = (lay l.toArray (fun i => a'.tmps.getD (((l.toArray[i]?).bind (·.dst)).getD 0) undef) n a).defers := by rw [lay_defers]; exact hI.defers
        have et : a'.tmps = (lay l.toArray (fun i => a'.tmps.getD (((l.toArray[i]?).bind (·.dst)).getD 0) undef) n a).tmps := by
          refine Array.ext (by rw [lay_size]; exact hI.size) fun t h1 h2 => ?_
          have h3 : t < a.tmps.size := by rw [← hI.size]; exact h1
          refine Option.some.inj ?_
          rw [← Array.getElem?_eq_getElem h1, ← Array.getElem?_eq_getElem h2]
          cases hf : fills l.toArray n t with
          | none =>
            rw [lay_other _ n a fun i hi => fills_none hf i hi]
            have := hI.rest t fun i hi hd => absurd hd (fills_none hf i hi)
            simp only [Array.getD_eq_getD_getElem?, Array.getElem?_eq_getElem h1, Array.getElem?_eq_getElem h3, Option.getD_some] at this
            rw [Array.getElem?_eq_getElem h1, Array.getElem?_eq_getElem h3, this]
          | some k =>
            obtain ⟨hk, hd⟩ := fills_some hf
            obtain ⟨o, d, hdk⟩ := hheads k hk
            have hdt : d = t := by rw [hdk.op] at hd; exact Option.some.inj (hdk.dst.symm.trans hd)
            subst hdt
            rw [lay_at _ n a hk hd h3 hdk.only, hd]
            simp only [Option.getD_some, Array.getD_eq_getD_getElem?, Array.getElem?_eq_getElem h1]
        cases a'; cases hlay : lay l.toArray _ n a
        rw [hlay] at ed et
        simp only at ed et
        rw [ed, et]
      rw [e]
      refine l4 _ W ((Gr.drew w).tr hI.grow) fun i hi => ?_
      obtain ⟨o, d, hd⟩ := hheads i hi
      have hdd : (l.toArray[i]?).bind (·.dst) = some d := by rw [hd.op]; exact hd.dst
      have := hI.done i d hi hdd (by simp [half, hi, show i < l.length by omega])
      simp only [hdd, Option.getD_some]
      exact this)
    n (Array.replicate l.toArray.size false) a w.drew hopen h0
  rw [show n + (l.length - n) = l.toArray.size by simp; omega] at this
  exact this

theorem region2_any {l : List Oper} (n : Nat) (hok : regionOk l.toArray n a.tmps.size = true)
    (h : Chain2 P l.toArray n a.tmps w.drew (fun c W => ∀ a', a'.defers = a.defers → Q (.panic c) a' W) (l.take n) 0 [] fun L =>
      ∀ (vs : Nat → Value) (W : World), Gr w W → Holds L n vs W → wpList P l.toArray Q (l.drop n) (lay l.toArray vs n a) W) :
    wpAny P .any l.toArray Q l.toArray.size (Array.replicate l.toArray.size false) a w.drew := by
  have hn : n ≤ l.length := by
    simp only [regionOk, Bool.and_eq_true, decide_eq_true_eq] at hok
    simpa using hok.1.1.1
  refine region_chain_any n hok ?_
  have h1 := Chain2.chain (k := 0) (Ls := []) rfl (Chain2.len (k := 0) (Ls := []) rfl h)
  have hmono : ∀ {f g : List (Value → World → Prop) → Prop}, (∀ L, f L → g L) → ∀ (r : List Oper) (Ls : List (Value → World → Prop)), Chain P l.toArray n a.tmps w.drew (fun c W => ∀ a', a'.defers = a.defers → Q (.panic c) a' W) r Ls f → Chain P l.toArray n a.tmps w.drew (fun c W => ∀ a', a'.defers = a.defers → Q (.panic c) a' W) r Ls g := by
    intro f g hfg r
    induction r with
    | nil => intro Ls hc; exact hfg _ hc
    | cons o r ih => intro Ls ⟨V, hV, hs, hr⟩; exact ⟨V, hV, hs, ih _ hr⟩
  refine hmono (fun L hL => ?_) _ _ h1
  obtain ⟨hlen, hf⟩ := hL
  intro vs W hg hv
  have hl : L.reverse.length = n := by rw [hlen]; simp; omega
  refine hf vs W hg ?_
  have := Holds.of (Ls := L.reverse) (vs := vs) (W := W) fun i hi => by
    rw [List.reverse_reverse]; exact hv i (by omega)
  rwa [hl] at this

/-- A region whose order is open, in a round. -/
theorem region2_in {y m : Nat} {id : Nat} {l : List Oper} (n : Nat) (hm : P.follows .mixedOrders = true) (hok : regionOk l.toArray n a.tmps.size = true) (hd : l.toArray.all noDefer = true) (hQ : ¬ LetsOut Q)
    (h : Chain2 P l.toArray n a.tmps w.drew (fun c W => ∀ a', a'.defers = a.defers → Q (.panic c) a' W) (l.take n) 0 [] fun L =>
      ∀ (vs : Nat → Value) (W : World), Gr w W → Holds L n vs W → wpList P l.toArray Q (l.drop n) (lay l.toArray vs n a) W) :
    (Code.region id l.toArray true).wpIn (Fence.wide.inRound y) m P Q a w :=
  wpIn_region_any hm (wpAnyIn_of_wpAny hd hQ _ _ _ _ (region2_any n hok h))
end
namespace Dw
section
variable {P : Program} {Q : Exit → Act → World → Prop} {n : Nat} {a : Act} {w : World} {A : Mk} {κ : Nat}
theorem region_chain_any {l : List Oper} (n : Nat) (hok : regionOk l.toArray n a.tmps.size = true)
    (h : Chain A κ P l.toArray n a.tmps w.drew (fun c W => ∀ a', a'.defers = a.defers → Q (.panic c) a' W) (l.take n) [] fun L =>
      ∀ (vs : Nat → Value) (W : World), Dr A (κ * n) w W → (∀ i, i < n → (L.getD i fun _ _ => True) (vs i) W) → wpList P l.toArray Q (l.drop n) (lay l.toArray vs n a) W) :
    wpAny P .any l.toArray Q l.toArray.size (Array.replicate l.toArray.size false) a w.drew := by
  simp only [regionOk, Bool.and_eq_true, Bool.or_eq_true, decide_eq_true_eq] at hok
  obtain ⟨⟨⟨hn, hh⟩, ht⟩, hseq⟩ := hok
  have hnl : n ≤ l.length := by simpa using hn
  have htl : (l.take n).length = n := by simp; omega
  obtain ⟨L, l1, l2, l3, l4⟩ := chain_vs (l := l) (l.take n) 0 [] rfl (by simp) (fun j o hj => by omega) (fun j hj => by
    have hj' : j < n := by rw [htl] at hj; exact hj
    simp [hj']) h
  rw [htl] at l1 l3
  have hheads := heads_of hh
  have hlast : ∀ i, Lasts A κ (L.getD i fun _ _ => True) := fun i => by
    rcases Nat.lt_or_ge i L.length with h' | h'
    · exact l2 _ (by simp [List.getElem?_eq_getElem h'])
    · rw [show L.getD i (fun _ _ => True) = fun _ _ => True by simp [List.getElem?_eq_none h']]
      exact fun _ _ _ _ _ => trivial
  have inv0 : HeadInv .any l.toArray n (Array.replicate l.toArray.size false) :=
    ⟨by simp, fun j oj _ hl => (by rw [getD_replicate_false] at hl; cases hl), fun t _ ht => getD_in (by simpa using ht) (getD_replicate_false _ _)⟩
  have hopen : open_ n (Array.replicate l.toArray.size false) = n := by
    unfold open_
    rw [List.filter_eq_self.2 fun i _ => by rw [getD_replicate_false]; rfl]
    simp
  have h0 : HI A κ l.toArray n (fun i => L.getD i fun _ _ => True) a w.drew (Array.replicate l.toArray.size false) a w.drew :=
    ⟨inv0, ⟨0, by rw [hopen]; omega, by simpa using Dr.same A _⟩, rfl, rfl, fun i d _ _ hl => (by rw [getD_replicate_false] at hl; cases hl), fun _ _ => rfl⟩
  have := wpAny_of_chain (P := P) (Q := Q) (n := n) (Vs := fun i => L.getD i fun _ _ => True) (a := a) (w := w.drew) (l := l) hlast (Pan := fun c W => ∀ a', a'.defers = a.defers → Q (.panic c) a' W) L hheads hnl
    (fun listed inv hun t htn hr => by
      rcases ht with ht | ht
      · obtain ⟨_, ot, hot, _⟩ := mem_ready.1 hr
        have := (Array.getElem?_eq_some_iff.1 hot).1
        omega
      · obtain ⟨i, hi, hx⟩ := hun
        by_cases hlt : n < l.toArray.size
        · exact tail_waits ht.1 ht.2 hlt inv _ i rfl hi hx t htn hr
        · obtain ⟨_, ot, hot, _⟩ := mem_ready.1 hr
          have := (Array.getElem?_eq_some_iff.1 hot).1
          omega)
    (by simpa using hseq) (fun _ => rfl) (fun i o hi ho => l3 i o (by omega) ho) (fun c W hp a' hd => hp a' hd)
    (fun a' W hI => by
      have e : a' = lay l.toArray (fun i => a'.tmps.getD (((l.toArray[i]?).bind (·.dst)).getD 0) undef) n a := by
        have ed : a'.defers = (lay l.toArray (fun i => a'.tmps.getD (((l.toArray[i]?).bind (·.dst)).getD 0) undef) n a).defers := by rw [lay_defers]; exact hI.defers
        have et : a'.tmps = (lay l.toArray (fun i => a'.tmps.getD (((l.toArray[i]?).bind (·.dst)).getD 0) undef) n a).tmps := by
          refine Array.ext (by rw [lay_size]; exact hI.size) fun t h1 h2 => ?_
          have h3 : t < a.tmps.size := by rw [← hI.size]; exact h1
          refine Option.some.inj ?_
          rw [← Array.getElem?_eq_getElem h1, ← Array.getElem?_eq_getElem h2]
          cases hf : fills l.toArray n t with
          | none =>
            rw [lay_other _ n a fun i hi => fills_none hf i hi]
            have := hI.rest t fun i hi hd => absurd hd (fills_none hf i hi)
            simp only [Array.getD_eq_getD_getElem?, Array.getElem?_eq_getElem h1, Array.getElem?_eq_getElem h3, Option.getD_some] at this
            rw [Array.getElem?_eq_getElem h1, Array.getElem?_eq_getElem h3, this]
          | some k =>
            obtain ⟨hk, hd⟩ := fills_some hf
            obtain ⟨o, d, hdk⟩ := hheads k hk
            have hdt : d = t := by rw [hdk.op] at hd; exact Option.some.inj (hdk.dst.symm.trans hd)
            subst hdt
            rw [lay_at _ n a hk hd h3 hdk.only, hd]
            simp only [Option.getD_some, Array.getD_eq_getD_getElem?, Array.getElem?_eq_getElem h1]
        cases a'; cases hlay : lay l.toArray _ n a
        rw [hlay] at ed et
        simp only at ed et
        rw [ed, et]
      rw [e]
      refine l4 _ W (by
        obtain ⟨c, hc, hw⟩ := hI.grow
        exact ((Dr.drew A w).tr hw).any) fun i hi => ?_
      obtain ⟨o, d, hd⟩ := hheads i hi
      have hdd : (l.toArray[i]?).bind (·.dst) = some d := by rw [hd.op]; exact hd.dst
      have := hI.done i d hi hdd (by simp [half, hi, show i < l.length by omega])
      simp only [hdd, Option.getD_some]
      exact this)
    n (Array.replicate l.toArray.size false) a w.drew hopen h0
  rw [show n + (l.length - n) = l.toArray.size by simp; omega] at this
  exact this

theorem region2_any {l : List Oper} (n : Nat) (hok : regionOk l.toArray n a.tmps.size = true)
    (h : Chain2 A κ P l.toArray n a.tmps w.drew (fun c W => ∀ a', a'.defers = a.defers → Q (.panic c) a' W) (l.take n) 0 [] fun L =>
      ∀ (vs : Nat → Value) (W : World), Dr A (κ * n) w W → Holds L n vs W → wpList P l.toArray Q (l.drop n) (lay l.toArray vs n a) W) :
    wpAny P .any l.toArray Q l.toArray.size (Array.replicate l.toArray.size false) a w.drew := by
  have hn : n ≤ l.length := by
    simp only [regionOk, Bool.and_eq_true, decide_eq_true_eq] at hok
    simpa using hok.1.1.1
  refine region_chain_any (A := A) (κ := κ) n hok ?_
  have h1 := Chain2.chain (k := 0) (Ls := []) rfl (Chain2.len (k := 0) (Ls := []) rfl h)
  have hmono : ∀ {f g : List (Value → World → Prop) → Prop}, (∀ L, f L → g L) → ∀ (r : List Oper) (Ls : List (Value → World → Prop)), Chain A κ P l.toArray n a.tmps w.drew (fun c W => ∀ a', a'.defers = a.defers → Q (.panic c) a' W) r Ls f → Chain A κ P l.toArray n a.tmps w.drew (fun c W => ∀ a', a'.defers = a.defers → Q (.panic c) a' W) r Ls g := by
    intro f g hfg r
    induction r with
    | nil => intro Ls hc; exact hfg _ hc
    | cons o r ih => intro Ls ⟨V, hV, hs, hr⟩; exact ⟨V, hV, hs, ih _ hr⟩
  refine hmono (fun L hL => ?_) _ _ h1
  obtain ⟨hlen, hf⟩ := hL
  intro vs W hg hv
  have hl : L.reverse.length = n := by rw [hlen]; simp; omega
  refine hf vs W hg ?_
  have := Holds.of (Ls := L.reverse) (vs := vs) (W := W) fun i hi => by
    rw [List.reverse_reverse]; exact hv i (by omega)
  rwa [hl] at this

/-- A region whose order is open, in a round. -/
theorem region2_in {y m : Nat} {id : Nat} {l : List Oper} (n : Nat) (hm : P.follows .mixedOrders = true) (hok : regionOk l.toArray n a.tmps.size = true) (hd : l.toArray.all noDefer = true) (hQ : ¬ LetsOut Q)
    (h : Chain2 A κ P l.toArray n a.tmps w.drew (fun c W => ∀ a', a'.defers = a.defers → Q (.panic c) a' W) (l.take n) 0 [] fun L =>
      ∀ (vs : Nat → Value) (W : World), Dr A (κ * n) w W → Holds L n vs W → wpList P l.toArray Q (l.drop n) (lay l.toArray vs n a) W) :
    (Code.region id l.toArray true).wpIn (Fence.wide.inRound y) m P Q a w :=
  wpIn_region_any hm (wpAnyIn_of_wpAny hd hQ _ _ _ _ (region2_any (A := A) (κ := κ) n hok h))
end
end Dw
end Go.Proofs.Ytjlaoiimbhlafaa
