import Derived.Test.YtjlaoiimbhlafaaG
import Derived.Laws.Rows
import Derived.Laws.Tables
import Derived.Laws.CopyOwn
import Derived.MapKept
import Derived.RangeFuncFrom
import Derived.RangeFuncNested
import Derived.RangeFuncBound
import Derived.RangeFuncCalls
import Derived.RangeFuncLeaves
import Derived.Shelf.Abstract
import Derived.Shelf.RegionOpen
import Derived.OwnWalkIn
import Derived.TacticsInMore
import Derived.LoopNIn
import Derived.WalkMore
import Derived.LoopIn
set_option linter.unusedVariables false
set_option linter.unusedSimpArgs false
namespace Go.Proofs.Ytjlaoiimbhlafaa
open Go.RowKit Go.Shelf

def rowD : TypeDesc → Bool
  | .struct _ | .array _ _ => true
  | _ => false
/-- Is a type a row of so many cells? -/
def rowOf (P : Program) (ty : TypeId) (n : Nat) : Bool := match P.underlying ty, P.info? ty with | some d, some i => rowD d && i.size == n | _, _ => false
theorem rowOf.parts {P : Program} {ty : TypeId} {n : Nat} (h : rowOf P ty n = true) : ∃ d, P.underlying ty = some d ∧ rowD d = true ∧ (P.info? ty).map (·.size) = some n := by
  unfold rowOf at h
  split at h
  · rename_i d i h1 h2
    simp only [Bool.and_eq_true, beq_iff_eq] at h
    exact ⟨d, h1, h.1, by rw [h2]; exact congrArg some h.2⟩
  · cases h
theorem Box.row {w : World} {b : Nat} {old vs : List Value} {T : TypeId} (h : Box w b old T) : Box (w.setRow b vs.toArray) b vs T := setRow_heap w b old.toArray vs.toArray T (0, 0) h
theorem Box.row_other {w : World} {b b' : Nat} {vs : List Value} {T : TypeId} (h : Box w b vs T) (hne : b ≠ b') (cs : Array Value) : Box (w.setRow b' cs) b vs T := (setRow_other w b' b cs hne).trans h
section
variable {P : Program}
def Stop (p : Prop) : Prop := p
theorem wpList_stopLoad {ops : Array Oper} {rest : List Oper} {o : Oper} {a : Act} {w : World} {Q : Exit → Act → World → Prop} {ty : TypeId} {x : Operand} (_ : o.op = .load ty x) (h : Stop (wpList P ops Q (o :: rest) a w)) : wpList P ops Q (o :: rest) a w := h
theorem wpList_stopStore {ops : Array Oper} {rest : List Oper} {o : Oper} {a : Act} {w : World} {Q : Exit → Act → World → Prop} {ty : TypeId} {x y : Operand} (_ : o.op = .store ty x y) (h : Stop (wpList P ops Q (o :: rest) a w)) : wpList P ops Q (o :: rest) a w := h
theorem wpList_stopBuild {ops : Array Oper} {rest : List Oper} {o : Oper} {a : Act} {w : World} {Q : Exit → Act → World → Prop} {ty : TypeId} {x : Array (Nat × Operand)} (_ : o.op = .build ty x) (h : Stop (wpList P ops Q (o :: rest) a w)) : wpList P ops Q (o :: rest) a w := h
/-- A whole row out of its block. -/
theorem wpList_loadBox {ops : Array Oper} {rest : List Oper} {o : Oper} {a : Act} {w : World} {Q : Exit → Act → World → Prop} {vs : List Value} {T ty : TypeId} {x : Operand} {g n : Nat} (hr : rowOf P ty n = true) (hn : vs.length = n) (hg : Box w g vs T)
    (ho : o.op = .load ty x) (hgd : o.guard = none) (hx : a.eval x = .pointer (some ⟨g, 0, none⟩))
    (h : wpList P ops Q rest (a.put o.dst (.agg vs.toArray)) w) : wpList P ops Q (o :: rest) a w := by
  obtain ⟨d, hu, hd, hi⟩ := rowOf.parts hr
  exact wpList_load_row hgd ty x ho g hx T vs.toArray (0, 0) d hg hu (by cases d <;> simp_all [rowD]) (by simpa [hn] using hi) h
/-- A whole row into its block. -/
theorem wpList_storeBox {ops : Array Oper} {rest : List Oper} {o : Oper} {a : Act} {w : World} {Q : Exit → Act → World → Prop} {old vs : List Value} {T ty : TypeId} {x y : Operand} {g n : Nat} (hr : rowOf P ty n = true) (hn : vs.length = n) (hold : old.length = n) (h1 : vs.all (·.oneCell') = true) (hg : Box w g old T)
    (ho : o.op = .store ty x y) (hgd : o.guard = none) (hx : a.eval x = .pointer (some ⟨g, 0, none⟩)) (hy : a.eval y = .agg vs.toArray)
    (h : wpList P ops Q rest (a.put o.dst undef) (w.setRow g vs.toArray)) : wpList P ops Q (o :: rest) a w := by
  obtain ⟨d, -, -, hi⟩ := rowOf.parts hr
  exact wpList_store_row hgd ty x y ho g vs.toArray hx hy T old.toArray hg (by simpa [hn] using hi) (by simp [hn, hold]) (by simpa using h1) h
/-- A whole row, built of its parts. -/
theorem wpList_buildRow {ops : Array Oper} {rest : List Oper} {o : Oper} {a : Act} {w : World} {Q : Exit → Act → World → Prop} {vs : List Value} {ty : TypeId} {parts : Array (Nat × Operand)} {ps : List (Nat × Value)} (hb : P.built ty ps = some vs.toArray)
    (ho : o.op = .build ty parts) (hgd : o.guard = none) (hp : (parts.map fun (i, x) => (i, a.eval x)).toList = ps)
    (h : wpList P ops Q rest (a.put o.dst (.agg vs.toArray)) w) : wpList P ops Q (o :: rest) a w := by
  refine wpList_build hgd ty parts ho (by rw [hp, hb]; rfl) ?_
  rw [hp, hb]
  exact h
end
theorem run_storeBox {W : World} {g : Nat} {old vs : List Value} {T : TypeId} (hg : Box W g old T) (hl : old.length = vs.length) (h1 : vs.all (·.oneCell') = true) :
    (storeCells ⟨g, 0, none⟩ vs).run Try.prog W = .ok () (W.setRow g vs.toArray) :=
  run_storeCells_from (P := Try.prog) g T vs 0 old.toArray W hg (by simp [hl]) (fun v hv => List.all_eq_true.1 h1 v hv)
theorem result_row {fn : Func} {p : Tmp} {ty : TypeId} {n : Nat} {vs : List Value} {T : TypeId} {tmps : Array Value} {w : World} {g : Nat} (hr : rowOf Try.prog ty n = true) (hn : vs.length = n) (hg : Box w g vs T) (h : fn.results = #[.cell p ty]) (hp : tmps.getD p undef = .pointer (some ⟨g, 0, none⟩)) :
    (results fn tmps).run Try.prog w = .ok (.agg vs.toArray) w := by
  obtain ⟨d, hu, hd, hi⟩ := rowOf.parts hr
  exact results_cell_row h tmps w g T vs.toArray (0, 0) d hp hg hu (by cases d <;> simp_all [rowD]) (by simpa [hn] using hi)
theorem exec_loadBox {P : Program} {vs : List Value} {T ty : TypeId} {x : Operand} {g n : Nat} {o : Oper} {ρ : Operand → Value} {W : World} (hr : rowOf P ty n = true) (hn : vs.length = n) (hg : Box W g vs T)
    (ho : o.op = .load ty x) (hx : ρ x = .pointer (some ⟨g, 0, none⟩)) : (execOp ρ o).run P W = .ok (.value (.agg vs.toArray)) W := by
  obtain ⟨d, hu, hd, hi⟩ := rowOf.parts hr
  unfold execOp
  simp only [ho, hx, Instr.loadAt, Instr.sureAddr, Sem.run_bind, Sem.run_pure, Result.andThen_ok, run_loadVar_row W g T ty vs.toArray (0, 0) d hg hu (by cases d <;> simp_all [rowD]) (by simpa [hn] using hi)]
/-- Nothing that is there turns, but block b. -/
structure Only (b : Nat) (w w' : World) : Prop where
  low : Below b w w'
  size : w.heap.size ≤ w'.heap.size
  keep : ∀ k, k ≠ b → k < w.heap.size → w'.heap[k]? = w.heap[k]?
theorem Only.of {b : Nat} {w w' : World} (hb : b < w.heap.size) (h : Gr w w') : Only b w w' := ⟨Below.mono h (by omega), h.size, fun k _ hk => h.block k hk⟩
theorem Only.tr {b : Nat} {u v w : World} (h : Only b u v) (k : Only b v w) : Only b u w :=
  ⟨h.low.trans k.low, Nat.le_trans h.size k.size, fun j hj hl => (k.keep j hj (Nat.lt_of_lt_of_le hl h.size)).trans (h.keep j hj hl)⟩
theorem Only.set {b : Nat} (w : World) (i : Nat) (v : Value) : Only b w (w.setCell ⟨b, i, none⟩ v) :=
  ⟨by have := (Below.refl b w).setCell (p := ⟨b, i, none⟩) (Nat.le_refl b) v; exact this, by simp, fun k hk hl => Below.heap_setCell _ _ _ _ hk⟩
theorem Only.box {b : Nat} {w w' : World} (h : Only b w w') {c : Nat} {vs : List Value} {T : TypeId} (hc : Box w c vs T) (hne : c ≠ b) : Box w' c vs T := (h.keep c hne hc.lt).trans hc
/-- Some cells of a block, read as a row. -/
theorem run_loadPart {P : Program} {W : World} {g i n : Nat} {vs us : List Value} {T ty : TypeId} (hr : rowOf P ty n = true) (hn : us.length = n) (hg : Box W g vs T) (hu : (vs.drop i).take n = us) :
    (loadVar ty ⟨g, i, none⟩).run P W = .ok (.agg us.toArray) W := by
  obtain ⟨d, hd, hd2, hi⟩ := rowOf.parts hr
  have hl : (loadCells ⟨g, i, none⟩ us.length).run P W = .ok us.toArray W := run_loadCells_list (P := P) W ⟨g, i, none⟩ us (fun j v hv => by
    have hadd : (⟨g, i, none⟩ : Addr).add j = ⟨g, i + j, none⟩ := by unfold Addr.add; split <;> simp_all
    rw [hadd]
    refine hg.cell ?_
    rw [← hu] at hv
    have hj : j < n := by have := (List.getElem?_eq_some_iff.1 hv).1; simp at this; omega
    rw [List.getElem?_take_of_lt hj, List.getElem?_drop] at hv
    exact hv)
  cases hq : P.info? ty with
  | none => simp [hq] at hi
  | some inf =>
    have hs : inf.size = us.length := by simp [hq] at hi; omega
    have hagg : (isAgg ty).run P W = .ok true W := by
      unfold isAgg
      rw [Sem.run_bind, run_underlying hd W]
      cases d <;> simp_all [rowD]
    simp [loadVar, Sem.run_bind, hagg, sizeOf, typeInfo, hq, hs, hl]
theorem wpList_loadPart {P : Program} {ops : Array Oper} {rest : List Oper} {o : Oper} {a : Act} {w : World} {Q : Exit → Act → World → Prop} {vs us : List Value} {T ty : TypeId} {x : Operand} {g i n : Nat} (hr : rowOf P ty n = true) (hn : us.length = n) (hg : Box w g vs T) (hu : (vs.drop i).take n = us)
    (ho : o.op = .load ty x) (hgd : o.guard = none) (hx : a.eval x = .pointer (some ⟨g, i, none⟩))
    (h : wpList P ops Q rest (a.put o.dst (.agg us.toArray)) w) : wpList P ops Q (o :: rest) a w := by
  refine wpList_plain hgd fun K hK => ?_
  unfold Oper.wp execOp
  simp only [ho, hx, Instr.loadAt, Instr.sureAddr, Sem.run_bind, Sem.run_pure, Result.andThen_ok, run_loadPart hr hn hg hu]
  exact hK _ _ h
theorem exec_loadPart {P : Program} {vs us : List Value} {T ty : TypeId} {x : Operand} {g i n : Nat} {o : Oper} {ρ : Operand → Value} {W : World} (hr : rowOf P ty n = true) (hn : us.length = n) (hg : Box W g vs T) (hu : (vs.drop i).take n = us)
    (ho : o.op = .load ty x) (hx : ρ x = .pointer (some ⟨g, i, none⟩)) : (execOp ρ o).run P W = .ok (.value (.agg us.toArray)) W := by
  unfold execOp
  simp only [ho, hx, Instr.loadAt, Instr.sureAddr, Sem.run_bind, Sem.run_pure, Result.andThen_ok, run_loadPart hr hn hg hu]
def KeepAt (S : List Nat) (W W' : World) : Prop := W.heap.size ≤ W'.heap.size ∧ ∀ k ∈ S, k < W.heap.size → W'.heap[k]? = W.heap[k]?
theorem KeepAt.refl (S : List Nat) (W : World) : KeepAt S W W := ⟨Nat.le_refl _, fun _ _ _ => rfl⟩
theorem KeepAt.trans {S : List Nat} {A B C : World} (h : KeepAt S A B) (k : KeepAt S B C) : KeepAt S A C :=
  ⟨Nat.le_trans h.1 k.1, fun i hi hl => (k.2 i hi (Nat.lt_of_lt_of_le hl h.1)).trans (h.2 i hi hl)⟩
theorem KeepAt.of {S : List Nat} {A B : World} (h : Gr A B) : KeepAt S A B := ⟨h.size, fun _ _ hl => h.block _ hl⟩
theorem KeepAt.only {S : List Nat} {A B : World} {b : Nat} (h : Only b A B) (hb : b ∉ S) : KeepAt S A B := ⟨h.size, fun k hk hl => h.keep k (fun e => hb (e ▸ hk)) hl⟩
theorem KeepAt.box {S : List Nat} {A B : World} (h : KeepAt S A B) {b : Nat} {vs : List Value} {T : TypeId} (hb : Box A b vs T) (hq : b ∈ S) : Box B b vs T := (h.2 b hq hb.lt).trans hb
theorem KeepAt.putObj {S : List Nat} (W : World) (l : Nat) (o' : Obj) (h : l ∉ S) : KeepAt S W (W.putObj l o') :=
  ⟨(grownBy_putObj' W l o').size, fun k hk hl => (grownBy_putObj' W l o').block k hl fun e => h ((Option.some.inj e) ▸ hk)⟩
theorem KeepAt.set {S : List Nat} (W : World) (b i : Nat) (v : Value) (h : b ∉ S) : KeepAt S W (W.setCell ⟨b, i, none⟩ v) :=
  ⟨by simp, fun k hk _ => Below.heap_setCell _ _ _ _ (fun (e : k = b) => h (e ▸ hk))⟩
theorem KeepAt.mono {S S' : List Nat} {A B : World} (h : KeepAt S A B) (hs : ∀ k ∈ S', k ∈ S) : KeepAt S' A B := ⟨h.1, fun k hk hl => h.2 k (hs k hk) hl⟩

theorem YieldAt.depth {F : Fence} {n m : Nat} {P : Program} {l : Nat} {args : Array Value} {W : World} {R : Ending → World → Prop} (hd : F.depth = none) (h : YieldAt F n P l args W R) : YieldAt F m P l args W R := by
  obtain ⟨fn, tmps, assign, body, hy, hf, hR⟩ := h
  exact ⟨fn, tmps, assign, body, hy, hf, fun c cs _ => hR c cs fun d h => by rw [hd] at h; cases h⟩
theorem CallsIn.depth {F : Fence} {n m : Nat} {P : Program} {f : FuncId} {args : Array Value} {w : World} {R : Ending → World → Prop} (hd : F.depth = none) (h : CallsIn F n P f args w R) : CallsIn F m P f args w R :=
  ⟨h.1, fun cs _ => h.2 cs fun d h => by rw [hd] at h; cases h⟩
theorem SeqStopsK.depth {α : Type} {F : Fence} {n m : Nat} {P : Program} {g : Nat} {lb : Array Value} {encs : α → Array Value} {Kp : World → World → Prop} {S Sp : List α → Prop} {N : Nat} {w : World} (hd : F.depth = none)
    (h : SeqStopsK F n P g lb encs Kp S Sp N w) : SeqStopsK F m P g lb encs Kp S Sp N w := fun y J Jx W hW hAJ hAX hY h0 =>
  CallsIn.depth hd (h y J Jx W hW hAJ hAX (fun pre x W1 hJ hN => YieldAt.depth hd (hY pre x W1 hJ hN)) h0)

theorem wpListIn_stopLoad {F : Fence} {m : Nat} {P : Program} {ops : Array Oper} {rest : List Oper} {o : Oper} {a : Act} {w : World} {Q : Exit → Act → World → Prop} {ty : TypeId} {x : Operand} (_ : o.op = .load ty x) (h : Stop (wpListIn F m P ops Q (o :: rest) a w)) : wpListIn F m P ops Q (o :: rest) a w := h
/-- Some cells of a block, read as a row, inside a fence. -/
theorem wpListIn_loadPart {F : Fence} {m : Nat} {P : Program} {ops : Array Oper} {rest : List Oper} {o : Oper} {a : Act} {w : World} {Q : Exit → Act → World → Prop} {vs us : List Value} {T ty : TypeId} {x : Operand} {g i n : Nat} (hr : rowOf P ty n = true) (hn : us.length = n) (hg : Box w g vs T) (hu : (vs.drop i).take n = us)
    (ho : o.op = .load ty x) (hgd : o.guard = none) (hx : a.eval x = .pointer (some ⟨g, i, none⟩))
    (h : wpListIn F m P ops Q rest (a.put o.dst (.agg us.toArray)) w) : wpListIn F m P ops Q (o :: rest) a w := by
  refine wpListIn_plain hgd fun K hK => ⟨fun f hf => by simp [Oper.about, ho] at hf, ?_⟩
  rw [Oper.semAt_eq _ _ _ (fun c => by rw [ho]; exact fun h => by cases h), exec_loadPart hr hn hg hu ho hx]
  exact hK _ _ h
/-- The same behind a guard that says yes. -/
theorem wpListIn_loadPartG {F : Fence} {m : Nat} {P : Program} {ops : Array Oper} {rest : List Oper} {o : Oper} {a : Act} {w : World} {Q : Exit → Act → World → Prop} {vs us : List Value} {T ty : TypeId} {x : Operand} {g i n : Nat} (hr : rowOf P ty n = true) (hn : us.length = n) (hg : Box w g vs T) (hu : (vs.drop i).take n = us)
    (ho : o.op = .load ty x) (hw : Region.wanted o (yielded ops a.tmps) = true) (hx : a.eval x = .pointer (some ⟨g, i, none⟩))
    (h : wpListIn F m P ops Q rest (a.put o.dst (.agg us.toArray)) w) : wpListIn F m P ops Q (o :: rest) a w := by
  refine BigFrame.wpListIn_want hw fun K hK => ⟨fun f hf => by simp [Oper.about, ho] at hf, ?_⟩
  rw [Oper.semAt_eq _ _ _ (fun c => by rw [ho]; exact fun h => by cases h), exec_loadPart hr hn hg hu ho hx]
  exact hK _ _ h
end Go.Proofs.Ytjlaoiimbhlafaa
