import Derived.Test.YtjlaoiimbhlafaaC25
set_option linter.unusedVariables false
set_option linter.unusedSimpArgs false
namespace Go.Proofs.Ytjlaoiimbhlafaa
open Go.RowKit Go.Shelf

open MW
attribute [local go_sem] Oper.semAt_some
/-- A row into a part of a block. -/
theorem run_storePart {P : Program} (g o : Nat) (T : TypeId) : ∀ (us : List Value) (i : Nat) (vs : List Value) (w : World), Box w g vs T → o + i + us.length ≤ vs.length → (∀ v ∈ us, v.oneCell' = true) →
    ∃ w', (storeCells ⟨g, o, none⟩ us i).run P w = .ok () w' ∧ Box w' g (vs.take (o + i) ++ (us ++ vs.drop (o + i + us.length))) T ∧ Only g w w'
  | [], i, vs, w, hg, hl, _ => ⟨w, rfl, by simpa using hg, Only.of hg.lt (Gr.same _)⟩
  | v :: us, i, vs, w, hg, hl, h1 => by
    simp only [List.length_cons] at hl
    have hadd : (⟨g, o, none⟩ : Addr).add i = ⟨g, o + i, none⟩ := by unfold Addr.add; split <;> simp_all
    have hcell : w.cell? ⟨g, o + i, none⟩ = some (vs[o + i]'(by omega)) := hg.cell (List.getElem?_eq_getElem (by omega))
    have hst : (store ((⟨g, o, none⟩ : Addr).add i) v).run P w = .ok () (w.setCell ⟨g, o + i, none⟩ v) := by
      rw [hadd, run_store P w _ v _ (h1 v (by simp)), hcell]
      simp [hg.free]
    obtain ⟨w', hr, hb, ho⟩ := run_storePart g o T us (i + 1) (vs.set (o + i) v) (w.setCell ⟨g, o + i, none⟩ v) (hg.put (o + i) v) (by rw [List.length_set]; omega) (fun x hx => h1 x (by simp [hx]))
    refine ⟨w', by simp only [storeCells, Sem.run_bind, hst, Result.andThen_ok]; exact hr, ?_, (Only.set w (o + i) v).tr ho⟩
    have e : (vs.set (o + i) v).take (o + (i + 1)) ++ (us ++ (vs.set (o + i) v).drop (o + (i + 1) + us.length)) = vs.take (o + i) ++ (v :: us ++ vs.drop (o + i + (v :: us).length)) := by
      have h2 : (vs.set (o + i) v).take (o + (i + 1)) = vs.take (o + i) ++ [v] := by
        rw [show o + (i + 1) = (o + i) + 1 by omega, List.take_succ_eq_append_getElem (by rw [List.length_set]; omega)]
        congr 1
        · rw [List.take_set_of_le (Nat.le_refl _)]
        · simp
      have h3 : (vs.set (o + i) v).drop (o + (i + 1) + us.length) = vs.drop (o + i + (v :: us).length) := by
        rw [List.drop_set_of_lt (by omega)]
        congr 1
        simp only [List.length_cons]
        omega
      rw [h2, h3]
      simp
    rw [← e]
    exact hb
theorem run_storeVarPart {P : Program} {g o n : Nat} {T ty : TypeId} {us vs : List Value} {w : World} (hr : rowOf P ty n = true) (hn : us.length = n) (hl : o + n ≤ vs.length) (h1 : us.all (·.oneCell') = true) (hg : Box w g vs T) :
    ∃ w', (storeVar ty ⟨g, o, none⟩ (.agg us.toArray)).run P w = .ok () w' ∧ Box w' g (vs.take o ++ (us ++ vs.drop (o + n))) T ∧ Only g w w' := by
  obtain ⟨d, hu, hd, hi⟩ := rowOf.parts hr
  obtain ⟨w', h2, h3, h4⟩ := run_storePart (P := P) g o T us 0 vs w hg (by omega) (fun v hv => List.all_eq_true.1 h1 v hv)
  refine ⟨w', ?_, by rw [← hn]; exact h3, h4⟩
  cases hq : P.info? ty with
  | none => simp [hq] at hi
  | some i =>
    have hs : us.length = i.size := by simp [hq] at hi; omega
    simp [storeVar, sizeOf, typeInfo, hq, Value.cells, hs, h2]
theorem wpList_storePart {P : Program} {ops : Array Oper} {rest : List Oper} {op : Oper} {a : Act} {w : World} {Q : Exit → Act → World → Prop} {g o n : Nat} {T ty : TypeId} {us vs : List Value} {x y : Operand} (hr : rowOf P ty n = true) (hn : us.length = n) (hl : o + n ≤ vs.length) (h1 : us.all (·.oneCell') = true) (hg : Box w g vs T)
    (ho : op.op = .store ty x y) (hgd : op.guard = none) (hx : a.eval x = .pointer (some ⟨g, o, none⟩)) (hy : a.eval y = .agg us.toArray)
    (h : ∀ w', Box w' g (vs.take o ++ (us ++ vs.drop (o + n))) T → Only g w w' → wpList P ops Q rest (a.put op.dst undef) w') : wpList P ops Q (op :: rest) a w := by
  refine wpList_plain hgd fun K hK => ?_
  obtain ⟨w', h2, h3, h4⟩ := run_storeVarPart hr hn hl h1 hg
  unfold Oper.wp execOp
  simp only [ho, hx, hy, Instr.storeAt, Instr.sureAddr, Sem.run_bind, Sem.run_pure, Result.andThen_ok, h2]
  exact hK _ _ (h w' h3 h4)
theorem fitc_set (f : Nat → Nat → Bool) (i j : Nat) (hi : i < 10) (hj : j < 10) : (fitc f).set (10 * i + j) (.bool true) = fitc (fun a b => (a == i && b == j) || f a b) := by
  unfold fitc
  apply List.ext_getElem?
  intro n
  rw [List.getElem?_set]
  by_cases h : 10 * i + j = n
  · rw [if_pos h]
    have hn : n < 100 := by omega
    have e1 : n / 10 = i := by omega
    have e2 : n % 10 = j := by omega
    subst h
    simp [hn, e1, e2]
  · rw [if_neg h]
    by_cases hn : n < 100
    · have e : (n / 10 == i && n % 10 == j) = false := by
        rw [Bool.and_eq_false_iff]
        by_cases h1 : n / 10 = i
        · right
          simp
          omega
        · left
          simpa using h1
      simp [hn, e]
    · simp [hn]
/-- Rows that are looked at, by what fits and by what is chosen. -/
def Rr.lk (r : Rr) (f : Nat → Nat → Bool) (m : Nat → Nat) : Lk := ⟨r.lp, r.lc, r.rp, r.rc, r.L.length, r.R.length, r.s, r.t, r.h, f, m⟩
theorem Rr.lk_fit (r : Rr) (f : Nat → Nat → Bool) (m : Nat → Nat) (i j : Nat) (hi : i < 10) (hj : j < 10) : (r.lk f m).cs.set (5 + (10 * i + j)) (.bool true) = (r.lk (fun a b => (a == i && b == j) || f a b) m).cs := by
  unfold Lk.cs
  rw [List.set_append_right _ _ (by show 5 ≤ _; omega)]
  have e : 5 + (10 * i + j) - (r.lk f m).rows.length = 10 * i + j := by show 5 + (10 * i + j) - 5 = _; omega
  rw [e, List.set_append_left _ _ (by rw [fitc_len]; omega)]
  show _ ++ ((fitc f).set _ _ ++ _) = _
  rw [fitc_set f i j hi hj]
  rfl
theorem Rr.lk_all (r : Rr) (f : Nat → Nat → Bool) (m m' : Nat → Nat) : (r.lk f m).cs.take (105 + 0) ++ (opts m' ++ (r.lk f m).cs.drop (105 + 0 + (opts m').length)) = (r.lk f m').cs := by
  have h1 : ((r.lk f m).rows ++ fitc f).length = 105 := by rw [List.length_append, fitc_len]; rfl
  have h2 := (r.lk f m).cs_len
  rw [opts_len, List.drop_eq_nil_of_le (by omega), List.append_nil]
  unfold Lk.cs
  rw [← List.append_assoc, List.take_left' (by exact h1), ← List.append_assoc]
  rfl
def Lk.zero : Lk := ⟨none, 0, none, 0, 0, 0, 0, 0, 0, fun _ _ => false, fun _ => 0⟩
theorem built85z : Try.prog.built 85 [] = some Lk.zero.cs.toArray := by kernel_rfl
theorem built85 (r : Rr) : Try.prog.built 85 [(0, r.val)] = some (r.lk (fun _ _ => false) (fun _ => 0)).cs.toArray := by kernel_rfl
theorem lk_one (k : Lk) : k.cs.all (·.oneCell') = true := rfl
theorem run_alloc85 (W : World) : (Instr.alloc 85 true (.tuple #[])).run Try.prog W = .ok (.pointer (some ⟨W.heap.size, 0, none⟩)) (W.alloc (.cells Lk.zero.cs.toArray 85)) := by kernel_rfl
section
variable {F : Fence} {m : Nat} {ops : Array Oper} {rest : List Oper} {o : Oper} {a : Act} {w : World} {Q : Exit → Act → World → Prop}
theorem wpList_stopAlloc {P : Program} {ty : TypeId} (_ : o.op = .alloc ty) (h : Stop (wpList P ops Q (o :: rest) a w)) : wpList P ops Q (o :: rest) a w := h
theorem wpList_alloc85 (ho : o.op = .alloc 85) (hgd : o.guard = none) (h : wpList Try.prog ops Q rest (a.put o.dst (.pointer (some ⟨w.heap.size, 0, none⟩))) (w.alloc (.cells Lk.zero.cs.toArray 85))) : wpList Try.prog ops Q (o :: rest) a w := by
  refine wpList_plain hgd fun K hK => ?_
  unfold Oper.wp execOp
  simp only [ho, Sem.run_bind, Sem.run_pure, run_alloc85, Result.andThen_ok]
  exact hK _ _ h
end
/-- The results of a function that returns a looked row and an error. -/
theorem results_pair85 {fn : Func} {p q : Tmp} {vs : List Value} {T : TypeId} {tmps : Array Value} {w : World} {g : Nat} {e : Value} (hg : Box w g vs T) (h : fn.results = #[.cell p 85, .tmp q]) (hp : tmps[p]?.getD undef = .pointer (some ⟨g, 0, none⟩)) (hn : vs.length = 115) (hq : tmps[q]?.getD undef = e) :
    (results fn tmps).run Try.prog w = .ok (.tuple #[.agg vs.toArray, e]) w := by
  have hr := run_loadPart (P := Try.prog) row85 hn hg (i := 0) (by rw [List.drop_zero, List.take_of_length_le (by omega)])
  simp [results, h, hp, asAddr, hr, hq]
set_option maxRecDepth 100000 in
set_option maxHeartbeats 1000000 in
theorem look_no (r : Rr) (w : World) (hl : MksAt r.L r.lp w) (hr : MksAt r.R r.rp w) (hno : r.ok = false) :
    Calls Try.prog 48 #[r.val] w fun e w' => e = .returned (.tuple #[.agg Lk.zero.cs.toArray, .int .i64 1]) ∧ Below w.heap.size w w' := by
  have HV := Lib.hid (fun W (hg : Gr w W) => valid_any r W (hl.grow hg) (hr.grow hg))
  rw [hno] at HV
  have hz := Lk.zero.cs_len
  have HBZ := Lib.hid built85z
  have HZ0 := Lib.hid (show Box ((w.alloc (Obj.cells r.cs.toArray 26)).alloc (Obj.cells Lk.zero.cs.toArray 85)) (w.heap.size + 1) Lk.zero.cs 85 by
    have := Box.fresh (w.alloc (Obj.cells r.cs.toArray 26)) Lk.zero.cs 85
    simpa using this)
  have hone := lk_one Lk.zero
  unfold Rr.cs at HZ0
  unfold Rr.val at *
  clear hl hr
  go_enter Try.func48, Try.ntmps48
  go_wp2_with (first
    | (with_reducible refine wpList_stopAlloc (ty := 85) rfl ?_; unfold Stop; refine wpList_alloc85 rfl rfl ?_)
    | (go_at_call 90; refine (HV.out _ ((Gr.alloc _ _).tr (Gr.alloc _ _))).mono ?_; rintro e w1 ⟨rfl, hb1⟩; have HZ1 := Lib.hid (HZ0.out.grow hb1); have HG1 := Lib.hid hb1; clear hb1)
    | (with_reducible refine wpList_stopBuild (ty := 85) rfl ?_; unfold Stop; refine wpList_buildRow HBZ.out rfl rfl (by simp [Act.eval]) ?_)
    | (with_reducible refine wpList_stopStore (ty := 85) rfl ?_; unfold Stop; refine wpList_storeBox row85 hz hz hone HZ1.out rfl rfl rfl rfl ?_)
    | go_step3)
  rw [Exit.noGoto_ret]
  exact bodyPost_ret (v := .tuple #[.agg Lk.zero.cs.toArray, .int .i64 1]) (results_pair85 (HZ1.out.row (vs := Lk.zero.cs)) rfl rfl hz rfl) rfl ⟨rfl, below_setRow (bgr (((Below.refl _ _).alloc (by first | (simp; done) | (simp; omega) | omega) _).alloc (by first | (simp; done) | (simp; omega) | omega) _) (by first | (simp; done) | (simp; omega) | omega) HG1.out) (by first | (simp; done) | (simp; omega) | omega) _⟩

end Go.Proofs.Ytjlaoiimbhlafaa
