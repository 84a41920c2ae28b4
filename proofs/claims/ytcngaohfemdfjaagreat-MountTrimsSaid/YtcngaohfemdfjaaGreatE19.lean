import Derived.Test.YtcngaohfemdfjaaGreatE12
import Derived.Test.YtcngaohfemdfjaaGreatE15
import Derived.Test.YtcngaohfemdfjaaGreatE16
set_option linter.unusedVariables false
set_option linter.unusedSimpArgs false
set_option maxRecDepth 100000
set_option maxHeartbeats 60000000
namespace Go.Proofs.YtcngaohfemdfjaaGreat
open Go.RowKit
theorem wpList_loadBoxG {P : Program} {ops : Array Oper} {rest : List Oper} {o : Oper} {a : Act} {w : World} {Q : Exit → Act → World → Prop} {vs : List Value} {T ty : TypeId} {x : Operand} {g n : Nat} (hr : rowOf P ty n = true) (hn : vs.length = n) (hg : Box w g vs T)
    (ho : o.op = .load ty x) (hw : Region.wanted o (yielded ops a.tmps) = true) (hx : a.eval x = .pointer (some ⟨g, 0, none⟩))
    (h : wpList P ops Q rest (a.put o.dst (.agg vs.toArray)) w) : wpList P ops Q (o :: rest) a w := by
  obtain ⟨d, hu, hd, hi⟩ := rowOf.parts hr
  exact BigFrame.wpList_want hw fun K hK => wp_load_row ty x ho g hx T vs.toArray (0, 0) d hg hu (by cases d <;> simp_all [rowD]) (by simpa [hn] using hi) (hK _ _ h)
def Cd.zero : List Value := [.int .i64 0, .int .i64 0, .int .i64 0, .int .i64 0, .int .i64 0, .int .i64 0, .int .i64 0, .slice none 0 0, .int .i64 0, .int .i64 0, .int .i64 0, .int .i64 0, .int .i64 0, .int .i64 0, .int .i64 0, .int .i64 0, .int .i64 0, .map none]
theorem built71_0 : Tryz.prog.built 71 [] = some Cd.zero.toArray := by kernel_rfl
theorem zero_one : Cd.zero.all (·.oneCell') = true := rfl
theorem result_row2 {fn : Func} {p q : Tmp} {ty : TypeId} {n : Nat} {vs : List Value} {T : TypeId} {tmps : Array Value} {w : World} {g : Nat} {x : Value} (hr : rowOf Tryz.prog ty n = true) (hn : vs.length = n) (hg : Box w g vs T) (h : fn.results = #[.cell p ty, .tmp q])
    (hp : tmps.getD p undef = .pointer (some ⟨g, 0, none⟩)) (hq : tmps.getD q undef = x) : (results fn tmps).run Tryz.prog w = .ok (.tuple #[.agg vs.toArray, x]) w := by
  obtain ⟨d, hu, hd, hi⟩ := rowOf.parts hr
  have hl := run_loadVar_row (P := Tryz.prog) w g T ty vs.toArray (0, 0) d hg hu (by cases d <;> simp_all [rowD]) (by simpa [hn] using hi)
  have hp' : tmps[p]?.getD undef = .pointer (some ⟨g, 0, none⟩) := by simpa using hp
  have hq' : tmps[q]?.getD undef = x := by simpa using hq
  simp [results, h, hp', hq', asAddr, hl]
theorem exec_buildRow {P : Program} {vs : List Value} {ty : TypeId} {parts : Array (Nat × Operand)} {ps : List (Nat × Value)} {o : Oper} {ρ : Operand → Value} {W : World} (hb : P.built ty ps = some vs.toArray)
    (ho : o.op = .build ty parts) (hp : (parts.map fun (i, x) => (i, ρ x)).toList = ps) : (execOp ρ o).run P W = .ok (.value (.agg vs.toArray)) W := by
  unfold execOp
  simp only [ho, Sem.run_bind, run_build W ty _ vs.toArray (by rw [hp, hb]), Result.andThen_ok, Sem.run_pure]
theorem MapAt.row {es : List (Int × Vw)} {mb : Nat} {w : World} (h : MapAt es mb w) {g : Nat} (hne : mb ≠ g) (cs : Array Value) : MapAt es mb (w.setRow g cs) := by
  obtain ⟨l, c, h1, h2⟩ := h
  exact ⟨l, c, (setRow_other w g mb cs hne).trans h1, h2⟩
def SeeV (k : Cd) (N : Nat) (v : Value) (W : World) : Prop := ∃ mb, v = .map (some mb) ∧ N ≤ mb ∧ MapAt k.p.sees mb W
theorem SeeV.lasts (k : Cd) (N : Nat) : Lasts (SeeV k N) := fun _ _ _ ⟨mb, h1, h2, h3⟩ hg => ⟨mb, h1, h2, h3.grow hg⟩
def LkV (k : Cd) (N : Nat) (v : Value) (W : World) : Prop := ∃ mb, v = .agg (k.lk mb).toArray ∧ N ≤ mb ∧ MapAt k.p.sees mb W
theorem LkV.lasts (k : Cd) (N : Nat) : Lasts (LkV k N) := fun _ _ _ ⟨mb, h1, h2, h3⟩ hg => ⟨mb, h1, h2, h3.grow hg⟩
theorem see_rel (k : Cd) (N : Nat) (W : World) (hT : TsA k.p.l (.slice k.sp k.p.l.length k.cap) W) (hok : k.p.ok = true) (hpw : k.p.pw.1 ≤ k.p.pw.2) (hN : N ≤ W.heap.size) :
    Calls Tryz.prog 91 #[.agg k.pr.toArray] W fun e W' => (∃ v, e = .returned v ∧ SeeV k N v W') ∧ Below W.heap.size W W' := by
  refine (see_ok' k W hT hok hpw).mono ?_
  rintro e W' ⟨rfl, hM, hb⟩
  exact ⟨⟨_, rfl, _, rfl, by omega, hM⟩, hb⟩
def Cd.err (k : Cd) (us : List Cu) : Int := if k.p.ok = false then 1 else if k.okc = false then 1 else if us.all (fun u => u.isT k.cuts) = false then 2 else if k.p.pw.1 ≤ k.p.pw.2 then 0 else 4
theorem okc_cuts {k : Cd} (h : k.okc = true) : 0 ≤ k.cuts ∧ k.cuts ≤ 40 := by
  unfold Cd.okc at h
  have := List.all_eq_true.1 h 2 (by simp)
  simpa [Cd.vd] using this
theorem look_pair0 (k : Cd) (w : World) (hT : TsA k.p.l (.slice k.sp k.p.l.length k.cap) w) (hpw : k.p.power = (0, 0, 1)) :
    Calls Tryz.prog 48 #[.agg k.cs.toArray, .slice none 0 0] w fun e w' => e = .returned (.tuple #[.agg Cd.zero.toArray, .int .i64 1]) ∧ Below w.heap.size w w' := by
  have HT := Lib.hid (fun (W : World) (hb : Below w.heap.size w W) => hT.below rfl hb)
  clear hT
  have HPW := Lib.hid hpw
  clear hpw
  have hl : k.cs.length = 17 := rfl
  have p0 : ∀ h : 0 < k.cs.length, k.cs[0] = .int .i64 k.p.fl := fun _ => rfl
  have p1 : ∀ h : 1 < k.cs.length, k.cs[1] = .int .i64 k.p.fh := fun _ => rfl
  have p2 : ∀ h : 2 < k.cs.length, k.cs[2] = .int .i64 k.p.bl := fun _ => rfl
  have p3 : ∀ h : 3 < k.cs.length, k.cs[3] = .int .i64 k.p.bh := fun _ => rfl
  have p4 : ∀ h : 4 < k.cs.length, k.cs[4] = .int .i64 k.p.ti := fun _ => rfl
  have p5 : ∀ h : 5 < k.cs.length, k.cs[5] = .int .i64 k.p.ne := fun _ => rfl
  have p6 : ∀ h : 6 < k.cs.length, k.cs[6] = .int .i64 k.p.fa := fun _ => rfl
  have p7 : ∀ h : 7 < k.cs.length, k.cs[7] = .slice k.sp k.p.l.length k.cap := fun _ => rfl
  have hz0 : Box ((w.alloc (Obj.cells k.cs.toArray 28)).alloc (Obj.cells Cd.zero.toArray 71)) (w.heap.size + 1) Cd.zero 71 := by
    have := Box.fresh (w.alloc (Obj.cells k.cs.toArray 28)) Cd.zero 71
    simpa using this
  have HZ0 := Lib.hid hz0
  clear hz0
  go_enter Tryz.func48, Tryz.ntmps48
  go_wp2_with fail
  refine (power_is (p := k.p) (v := .slice k.sp k.p.l.length k.cap) HPW.out (HT.out _ (((Below.refl _ _).alloc (Nat.le_refl _) _).alloc (by simp) _))).mono ?_
  rintro e w1 ⟨rfl, hb1⟩
  have HG1 := Lib.hid (show Gr w w1 from ((Gr.alloc _ _).tr (Gr.alloc _ _)).tr hb1)
  have HK1 := Lib.hid (((Box.fresh w k.cs 28).grow (Gr.alloc _ (Obj.cells Cd.zero.toArray 71))).grow hb1)
  have HZ1 := Lib.hid (HZ0.out.grow hb1)
  have hq1 : w.heap.size + 1 < w1.heap.size := HZ1.out.lt
  clear hb1
  have HG := Lib.hid (Gr.tr HG1.out (Gr.alloc w1 (.cells #[.int .i64 0, .int .i64 0] 23)))
  have HB := Lib.hid (HK1.out.grow (Gr.alloc w1 (.cells #[.int .i64 0, .int .i64 0] 23)))
  have HZ := Lib.hid (HZ1.out.grow (Gr.alloc w1 (.cells #[.int .i64 0, .int .i64 0] 23)))
  clear HG1 HK1 HZ1
  go_wp2_with (first | (with_reducible refine wsl (ty := 28) rfl ?_; unfold Stop; first | (refine wpList_loadBoxG row28 rfl (HB.out) rfl rfl rfl ?_) | (refine wlb row28 rfl (HB.out) rfl rfl rfl ?_)) | (with_reducible refine wpList_stopBuild (ty := 71) rfl ?_; unfold Stop; refine wpList_buildRow built71_0 rfl rfl (by simp) ?_) | (with_reducible refine wpList_stopStore (ty := 71) rfl ?_; unfold Stop; refine wpList_storeBox (vs := Cd.zero) row71 rfl rfl zero_one (HZ.out) rfl rfl rfl rfl ?_))
  exact bodyPost_ret (v := .tuple #[.agg Cd.zero.toArray, .int .i64 1]) (result_row2 row71 rfl (HZ.out.row (vs := Cd.zero)) rfl rfl rfl) rfl ⟨rfl, below_setRow HG.out (by omega) _⟩
theorem look_card0_4 (k : Cd) (w : World) (hT : TsA k.p.l (.slice k.sp k.p.l.length k.cap) w) (hpw : k.p.power = (0, 0, 4)) (hkc : k.okc = false) :
    Calls Tryz.prog 48 #[.agg k.cs.toArray, .slice none 0 0] w fun e w' => e = .returned (.tuple #[.agg Cd.zero.toArray, .int .i64 1]) ∧ Below w.heap.size w w' := by
  have HT := Lib.hid (fun (W : World) (hb : Below w.heap.size w W) => hT.below rfl hb)
  clear hT
  have HPW := Lib.hid hpw
  clear hpw
  have hl : k.cs.length = 17 := rfl
  have p0 : ∀ h : 0 < k.cs.length, k.cs[0] = .int .i64 k.p.fl := fun _ => rfl
  have p1 : ∀ h : 1 < k.cs.length, k.cs[1] = .int .i64 k.p.fh := fun _ => rfl
  have p2 : ∀ h : 2 < k.cs.length, k.cs[2] = .int .i64 k.p.bl := fun _ => rfl
  have p3 : ∀ h : 3 < k.cs.length, k.cs[3] = .int .i64 k.p.bh := fun _ => rfl
  have p4 : ∀ h : 4 < k.cs.length, k.cs[4] = .int .i64 k.p.ti := fun _ => rfl
  have p5 : ∀ h : 5 < k.cs.length, k.cs[5] = .int .i64 k.p.ne := fun _ => rfl
  have p6 : ∀ h : 6 < k.cs.length, k.cs[6] = .int .i64 k.p.fa := fun _ => rfl
  have p7 : ∀ h : 7 < k.cs.length, k.cs[7] = .slice k.sp k.p.l.length k.cap := fun _ => rfl
  have hz0 : Box ((w.alloc (Obj.cells k.cs.toArray 28)).alloc (Obj.cells Cd.zero.toArray 71)) (w.heap.size + 1) Cd.zero 71 := by
    have := Box.fresh (w.alloc (Obj.cells k.cs.toArray 28)) Cd.zero 71
    simpa using this
  have HZ0 := Lib.hid hz0
  clear hz0
  go_enter Tryz.func48, Tryz.ntmps48
  go_wp2_with fail
  refine (power_is (p := k.p) (v := .slice k.sp k.p.l.length k.cap) HPW.out (HT.out _ (((Below.refl _ _).alloc (Nat.le_refl _) _).alloc (by simp) _))).mono ?_
  rintro e w1 ⟨rfl, hb1⟩
  have HG1 := Lib.hid (show Gr w w1 from ((Gr.alloc _ _).tr (Gr.alloc _ _)).tr hb1)
  have HK1 := Lib.hid (((Box.fresh w k.cs 28).grow (Gr.alloc _ (Obj.cells Cd.zero.toArray 71))).grow hb1)
  have HZ1 := Lib.hid (HZ0.out.grow hb1)
  have hq1 : w.heap.size + 1 < w1.heap.size := HZ1.out.lt
  clear hb1
  have HG := Lib.hid (Gr.tr HG1.out (Gr.alloc w1 (.cells #[.int .i64 0, .int .i64 0] 23)))
  have HB := Lib.hid (HK1.out.grow (Gr.alloc w1 (.cells #[.int .i64 0, .int .i64 0] 23)))
  have HZ := Lib.hid (HZ1.out.grow (Gr.alloc w1 (.cells #[.int .i64 0, .int .i64 0] 23)))
  clear HG1 HK1 HZ1
  go_wp2_with (first | (with_reducible refine wsl (ty := 28) rfl ?_; unfold Stop; first | (refine wpList_loadBoxG row28 rfl (HB.out) rfl rfl rfl ?_) | (refine wlb row28 rfl (HB.out) rfl rfl rfl ?_)) | (with_reducible refine wpList_stopBuild (ty := 71) rfl ?_; unfold Stop; refine wpList_buildRow built71_0 rfl rfl (by simp) ?_) | (with_reducible refine wpList_stopStore (ty := 71) rfl ?_; unfold Stop; refine wpList_storeBox (vs := Cd.zero) row71 rfl rfl zero_one (HZ.out) rfl rfl rfl rfl ?_))
  refine (mvalid_any k _).mono ?_
  rintro e w2 ⟨rfl, hb2⟩
  rw [hkc]
  have HG' := Lib.hid (Gr.tr HG.out hb2)
  have HB' := Lib.hid (HB.out.grow hb2)
  have HZ' := Lib.hid (HZ.out.grow hb2)
  clear HG HB HZ hb2
  have HG := HG'
  have HB := HB'
  have HZ := HZ'
  clear HG' HB' HZ'
  go_wp2_with (first | (with_reducible refine wsl (ty := 28) rfl ?_; unfold Stop; first | (refine wpList_loadBoxG row28 rfl (HB.out) rfl rfl rfl ?_) | (refine wlb row28 rfl (HB.out) rfl rfl rfl ?_)) | (with_reducible refine wpList_stopBuild (ty := 71) rfl ?_; unfold Stop; refine wpList_buildRow built71_0 rfl rfl (by simp) ?_) | (with_reducible refine wpList_stopStore (ty := 71) rfl ?_; unfold Stop; refine wpList_storeBox (vs := Cd.zero) row71 rfl rfl zero_one (HZ.out) rfl rfl rfl rfl ?_))
  exact bodyPost_ret (v := .tuple #[.agg Cd.zero.toArray, .int .i64 1]) (result_row2 row71 rfl (HZ.out.row (vs := Cd.zero)) rfl rfl rfl) rfl ⟨rfl, below_setRow HG.out (by omega) _⟩
theorem look_end0_4 (k : Cd) (w : World) (hT : TsA k.p.l (.slice k.sp k.p.l.length k.cap) w) (hpw : k.p.power = (0, 0, 4)) (hkc : k.okc = true) :
    Calls Tryz.prog 48 #[.agg k.cs.toArray, .slice none 0 0] w fun e w' => e = .returned (.tuple #[.agg Cd.zero.toArray, .int .i64 4]) ∧ Below w.heap.size w w' := by
  have HT := Lib.hid (fun (W : World) (hb : Below w.heap.size w W) => hT.below rfl hb)
  clear hT
  have HPW := Lib.hid hpw
  clear hpw
  have hl : k.cs.length = 17 := rfl
  have p0 : ∀ h : 0 < k.cs.length, k.cs[0] = .int .i64 k.p.fl := fun _ => rfl
  have p1 : ∀ h : 1 < k.cs.length, k.cs[1] = .int .i64 k.p.fh := fun _ => rfl
  have p2 : ∀ h : 2 < k.cs.length, k.cs[2] = .int .i64 k.p.bl := fun _ => rfl
  have p3 : ∀ h : 3 < k.cs.length, k.cs[3] = .int .i64 k.p.bh := fun _ => rfl
  have p4 : ∀ h : 4 < k.cs.length, k.cs[4] = .int .i64 k.p.ti := fun _ => rfl
  have p5 : ∀ h : 5 < k.cs.length, k.cs[5] = .int .i64 k.p.ne := fun _ => rfl
  have p6 : ∀ h : 6 < k.cs.length, k.cs[6] = .int .i64 k.p.fa := fun _ => rfl
  have p7 : ∀ h : 7 < k.cs.length, k.cs[7] = .slice k.sp k.p.l.length k.cap := fun _ => rfl
  have hz0 : Box ((w.alloc (Obj.cells k.cs.toArray 28)).alloc (Obj.cells Cd.zero.toArray 71)) (w.heap.size + 1) Cd.zero 71 := by
    have := Box.fresh (w.alloc (Obj.cells k.cs.toArray 28)) Cd.zero 71
    simpa using this
  have HZ0 := Lib.hid hz0
  clear hz0
  go_enter Tryz.func48, Tryz.ntmps48
  go_wp2_with fail
  refine (power_is (p := k.p) (v := .slice k.sp k.p.l.length k.cap) HPW.out (HT.out _ (((Below.refl _ _).alloc (Nat.le_refl _) _).alloc (by simp) _))).mono ?_
  rintro e w1 ⟨rfl, hb1⟩
  have HG1 := Lib.hid (show Gr w w1 from ((Gr.alloc _ _).tr (Gr.alloc _ _)).tr hb1)
  have HK1 := Lib.hid (((Box.fresh w k.cs 28).grow (Gr.alloc _ (Obj.cells Cd.zero.toArray 71))).grow hb1)
  have HZ1 := Lib.hid (HZ0.out.grow hb1)
  have hq1 : w.heap.size + 1 < w1.heap.size := HZ1.out.lt
  clear hb1
  have HG := Lib.hid (Gr.tr HG1.out (Gr.alloc w1 (.cells #[.int .i64 0, .int .i64 0] 23)))
  have HB := Lib.hid (HK1.out.grow (Gr.alloc w1 (.cells #[.int .i64 0, .int .i64 0] 23)))
  have HZ := Lib.hid (HZ1.out.grow (Gr.alloc w1 (.cells #[.int .i64 0, .int .i64 0] 23)))
  clear HG1 HK1 HZ1
  go_wp2_with (first | (with_reducible refine wsl (ty := 28) rfl ?_; unfold Stop; first | (refine wpList_loadBoxG row28 rfl (HB.out) rfl rfl rfl ?_) | (refine wlb row28 rfl (HB.out) rfl rfl rfl ?_)) | (with_reducible refine wpList_stopBuild (ty := 71) rfl ?_; unfold Stop; refine wpList_buildRow built71_0 rfl rfl (by simp) ?_) | (with_reducible refine wpList_stopStore (ty := 71) rfl ?_; unfold Stop; refine wpList_storeBox (vs := Cd.zero) row71 rfl rfl zero_one (HZ.out) rfl rfl rfl rfl ?_))
  refine (mvalid_any k _).mono ?_
  rintro e w2 ⟨rfl, hb2⟩
  rw [hkc]
  have HG' := Lib.hid (Gr.tr HG.out hb2)
  have HB' := Lib.hid (HB.out.grow hb2)
  have HZ' := Lib.hid (HZ.out.grow hb2)
  clear HG HB HZ hb2
  have HG := HG'
  have HB := HB'
  have HZ := HZ'
  clear HG' HB' HZ'
  go_wp2_with fail
  refine wp_loop_rounds 1 ?_
  rw [rounds_succ]
  go_wp2_with (first | (with_reducible refine wsl (ty := 28) rfl ?_; unfold Stop; first | (refine wpList_loadBoxG row28 rfl (HB.out) rfl rfl rfl ?_) | (refine wlb row28 rfl (HB.out) rfl rfl rfl ?_)) | (with_reducible refine wpList_stopBuild (ty := 71) rfl ?_; unfold Stop; refine wpList_buildRow built71_0 rfl rfl (by simp) ?_) | (with_reducible refine wpList_stopStore (ty := 71) rfl ?_; unfold Stop; refine wpList_storeBox (vs := Cd.zero) row71 rfl rfl zero_one (HZ.out) rfl rfl rfl rfl ?_))
  exact bodyPost_ret (v := .tuple #[.agg Cd.zero.toArray, .int .i64 4]) (result_row2 row71 rfl (HZ.out.row (vs := Cd.zero)) rfl rfl rfl) rfl ⟨rfl, below_setRow HG.out (by omega) _⟩
theorem look_card0_0 (k : Cd) (w : World) (hT : TsA k.p.l (.slice k.sp k.p.l.length k.cap) w) (x y : Int) (hpw : k.p.power = (x, y, 0)) (hkc : k.okc = false) :
    Calls Tryz.prog 48 #[.agg k.cs.toArray, .slice none 0 0] w fun e w' => e = .returned (.tuple #[.agg Cd.zero.toArray, .int .i64 1]) ∧ Below w.heap.size w w' := by
  have HT := Lib.hid (fun (W : World) (hb : Below w.heap.size w W) => hT.below rfl hb)
  clear hT
  have HPW := Lib.hid hpw
  clear hpw
  have hl : k.cs.length = 17 := rfl
  have p0 : ∀ h : 0 < k.cs.length, k.cs[0] = .int .i64 k.p.fl := fun _ => rfl
  have p1 : ∀ h : 1 < k.cs.length, k.cs[1] = .int .i64 k.p.fh := fun _ => rfl
  have p2 : ∀ h : 2 < k.cs.length, k.cs[2] = .int .i64 k.p.bl := fun _ => rfl
  have p3 : ∀ h : 3 < k.cs.length, k.cs[3] = .int .i64 k.p.bh := fun _ => rfl
  have p4 : ∀ h : 4 < k.cs.length, k.cs[4] = .int .i64 k.p.ti := fun _ => rfl
  have p5 : ∀ h : 5 < k.cs.length, k.cs[5] = .int .i64 k.p.ne := fun _ => rfl
  have p6 : ∀ h : 6 < k.cs.length, k.cs[6] = .int .i64 k.p.fa := fun _ => rfl
  have p7 : ∀ h : 7 < k.cs.length, k.cs[7] = .slice k.sp k.p.l.length k.cap := fun _ => rfl
  have hz0 : Box ((w.alloc (Obj.cells k.cs.toArray 28)).alloc (Obj.cells Cd.zero.toArray 71)) (w.heap.size + 1) Cd.zero 71 := by
    have := Box.fresh (w.alloc (Obj.cells k.cs.toArray 28)) Cd.zero 71
    simpa using this
  have HZ0 := Lib.hid hz0
  clear hz0
  go_enter Tryz.func48, Tryz.ntmps48
  go_wp2_with fail
  refine (power_is (p := k.p) (v := .slice k.sp k.p.l.length k.cap) HPW.out (HT.out _ (((Below.refl _ _).alloc (Nat.le_refl _) _).alloc (by simp) _))).mono ?_
  rintro e w1 ⟨rfl, hb1⟩
  have HG1 := Lib.hid (show Gr w w1 from ((Gr.alloc _ _).tr (Gr.alloc _ _)).tr hb1)
  have HK1 := Lib.hid (((Box.fresh w k.cs 28).grow (Gr.alloc _ (Obj.cells Cd.zero.toArray 71))).grow hb1)
  have HZ1 := Lib.hid (HZ0.out.grow hb1)
  have hq1 : w.heap.size + 1 < w1.heap.size := HZ1.out.lt
  clear hb1
  have HG := Lib.hid (Gr.tr HG1.out (Gr.alloc w1 (.cells #[.int .i64 x, .int .i64 y] 23)))
  have HB := Lib.hid (HK1.out.grow (Gr.alloc w1 (.cells #[.int .i64 x, .int .i64 y] 23)))
  have HZ := Lib.hid (HZ1.out.grow (Gr.alloc w1 (.cells #[.int .i64 x, .int .i64 y] 23)))
  clear HG1 HK1 HZ1
  go_wp2_with (first | (with_reducible refine wsl (ty := 28) rfl ?_; unfold Stop; first | (refine wpList_loadBoxG row28 rfl (HB.out) rfl rfl rfl ?_) | (refine wlb row28 rfl (HB.out) rfl rfl rfl ?_)) | (with_reducible refine wpList_stopBuild (ty := 71) rfl ?_; unfold Stop; refine wpList_buildRow built71_0 rfl rfl (by simp) ?_) | (with_reducible refine wpList_stopStore (ty := 71) rfl ?_; unfold Stop; refine wpList_storeBox (vs := Cd.zero) row71 rfl rfl zero_one (HZ.out) rfl rfl rfl rfl ?_))
  refine (mvalid_any k _).mono ?_
  rintro e w2 ⟨rfl, hb2⟩
  rw [hkc]
  have HG' := Lib.hid (Gr.tr HG.out hb2)
  have HB' := Lib.hid (HB.out.grow hb2)
  have HZ' := Lib.hid (HZ.out.grow hb2)
  clear HG HB HZ hb2
  have HG := HG'
  have HB := HB'
  have HZ := HZ'
  clear HG' HB' HZ'
  go_wp2_with (first | (with_reducible refine wsl (ty := 28) rfl ?_; unfold Stop; first | (refine wpList_loadBoxG row28 rfl (HB.out) rfl rfl rfl ?_) | (refine wlb row28 rfl (HB.out) rfl rfl rfl ?_)) | (with_reducible refine wpList_stopBuild (ty := 71) rfl ?_; unfold Stop; refine wpList_buildRow built71_0 rfl rfl (by simp) ?_) | (with_reducible refine wpList_stopStore (ty := 71) rfl ?_; unfold Stop; refine wpList_storeBox (vs := Cd.zero) row71 rfl rfl zero_one (HZ.out) rfl rfl rfl rfl ?_))
  exact bodyPost_ret (v := .tuple #[.agg Cd.zero.toArray, .int .i64 1]) (result_row2 row71 rfl (HZ.out.row (vs := Cd.zero)) rfl rfl rfl) rfl ⟨rfl, below_setRow HG.out (by omega) _⟩
theorem look_end0_0 (k : Cd) (w : World) (hT : TsA k.p.l (.slice k.sp k.p.l.length k.cap) w) (x y : Int) (hpw : k.p.power = (x, y, 0)) (hkc : k.okc = true) (hok : k.p.ok = true) (hpp : k.p.pw.1 ≤ k.p.pw.2) :
    Calls Tryz.prog 48 #[.agg k.cs.toArray, .slice none 0 0] w fun e w' => ∃ mb, e = .returned (.tuple #[.agg (k.lk mb).toArray, .int .i64 0]) ∧ w.heap.size ≤ mb ∧ MapAt k.p.sees mb w' ∧ Below w.heap.size w w' := by
  have HT := Lib.hid (fun (W : World) (hb : Below w.heap.size w W) => hT.below rfl hb)
  clear hT
  have HPW := Lib.hid hpw
  clear hpw
  have hl : k.cs.length = 17 := rfl
  have p0 : ∀ h : 0 < k.cs.length, k.cs[0] = .int .i64 k.p.fl := fun _ => rfl
  have p1 : ∀ h : 1 < k.cs.length, k.cs[1] = .int .i64 k.p.fh := fun _ => rfl
  have p2 : ∀ h : 2 < k.cs.length, k.cs[2] = .int .i64 k.p.bl := fun _ => rfl
  have p3 : ∀ h : 3 < k.cs.length, k.cs[3] = .int .i64 k.p.bh := fun _ => rfl
  have p4 : ∀ h : 4 < k.cs.length, k.cs[4] = .int .i64 k.p.ti := fun _ => rfl
  have p5 : ∀ h : 5 < k.cs.length, k.cs[5] = .int .i64 k.p.ne := fun _ => rfl
  have p6 : ∀ h : 6 < k.cs.length, k.cs[6] = .int .i64 k.p.fa := fun _ => rfl
  have p7 : ∀ h : 7 < k.cs.length, k.cs[7] = .slice k.sp k.p.l.length k.cap := fun _ => rfl
  have hz0 : Box ((w.alloc (Obj.cells k.cs.toArray 28)).alloc (Obj.cells Cd.zero.toArray 71)) (w.heap.size + 1) Cd.zero 71 := by
    have := Box.fresh (w.alloc (Obj.cells k.cs.toArray 28)) Cd.zero 71
    simpa using this
  have HZ0 := Lib.hid hz0
  clear hz0
  go_enter Tryz.func48, Tryz.ntmps48
  go_wp2_with fail
  refine (power_is (p := k.p) (v := .slice k.sp k.p.l.length k.cap) HPW.out (HT.out _ (((Below.refl _ _).alloc (Nat.le_refl _) _).alloc (by simp) _))).mono ?_
  rintro e w1 ⟨rfl, hb1⟩
  have HG1 := Lib.hid (show Gr w w1 from ((Gr.alloc _ _).tr (Gr.alloc _ _)).tr hb1)
  have HK1 := Lib.hid (((Box.fresh w k.cs 28).grow (Gr.alloc _ (Obj.cells Cd.zero.toArray 71))).grow hb1)
  have HZ1 := Lib.hid (HZ0.out.grow hb1)
  have hq1 : w.heap.size + 1 < w1.heap.size := HZ1.out.lt
  clear hb1
  have HG := Lib.hid (Gr.tr HG1.out (Gr.alloc w1 (.cells #[.int .i64 x, .int .i64 y] 23)))
  have HB := Lib.hid (HK1.out.grow (Gr.alloc w1 (.cells #[.int .i64 x, .int .i64 y] 23)))
  have HZ := Lib.hid (HZ1.out.grow (Gr.alloc w1 (.cells #[.int .i64 x, .int .i64 y] 23)))
  clear HG1 HK1 HZ1
  go_wp2_with (first | (with_reducible refine wsl (ty := 28) rfl ?_; unfold Stop; first | (refine wpList_loadBoxG row28 rfl (HB.out) rfl rfl rfl ?_) | (refine wlb row28 rfl (HB.out) rfl rfl rfl ?_)) | (with_reducible refine wpList_stopBuild (ty := 71) rfl ?_; unfold Stop; refine wpList_buildRow built71_0 rfl rfl (by simp) ?_) | (with_reducible refine wpList_stopStore (ty := 71) rfl ?_; unfold Stop; refine wpList_storeBox (vs := Cd.zero) row71 rfl rfl zero_one (HZ.out) rfl rfl rfl rfl ?_))
  refine (mvalid_any k _).mono ?_
  rintro e w2 ⟨rfl, hb2⟩
  rw [hkc]
  have HG' := Lib.hid (Gr.tr HG.out hb2)
  have HB' := Lib.hid (HB.out.grow hb2)
  have HZ' := Lib.hid (HZ.out.grow hb2)
  clear HG HB HZ hb2
  have HG := HG'
  have HB := HB'
  have HZ := HZ'
  clear HG' HB' HZ'
  go_wp2_with fail
  refine wp_loop_rounds 1 ?_
  rw [rounds_succ]
  go_wp2_with (first | (with_reducible refine wsl (ty := 28) rfl ?_; unfold Stop; first | (refine wpList_loadBoxG row28 rfl (HB.out) rfl rfl rfl ?_) | (refine wlb row28 rfl (HB.out) rfl rfl rfl ?_)) | (with_reducible refine wpList_stopBuild (ty := 71) rfl ?_; unfold Stop; refine wpList_buildRow built71_0 rfl rfl (by simp) ?_) | (with_reducible refine wpList_stopStore (ty := 71) rfl ?_; unfold Stop; refine wpList_storeBox (vs := Cd.zero) row71 rfl rfl zero_one (HZ.out) rfl rfl rfl rfl ?_))
  have kl := HB.out.lt
  have zl := HZ.out.lt
  have c0 := HB.out.cell (i := 0) rfl
  have c1 := HB.out.cell (i := 1) rfl
  have c2 := HB.out.cell (i := 2) rfl
  have c3 := HB.out.cell (i := 3) rfl
  have c4 := HB.out.cell (i := 4) rfl
  have c5 := HB.out.cell (i := 5) rfl
  have c6 := HB.out.cell (i := 6) rfl
  have c7 := HB.out.cell (i := 7) rfl
  refine region2 5 ?_ ?_ ?_
  · kernel_rfl
  · kernel_rfl
  simp only [List.take_succ_cons, List.take_zero, List.drop_succ_cons, List.drop_zero]
  apply ceq (D := [(2, none)]) rfl (by kernel_rfl)
  · intro ρ W ⟨p1,p2,p3⟩ hG hF K hK; (try simp [FD] at hF); rw [xlb row28 rfl (HB.out.grow (Gr.tr (Gr.drew _) hG)) rfl hF]; exact hK _ gv
  apply ceq (D := [(2, none)]) rfl (by kernel_rfl)
  · intro ρ W ⟨p1,p2,p3⟩ hG hF K hK; (try simp [FD] at hF); have ⟨hc, hf, hz⟩ := bdr hG; go_simp; exact hK _ gv
  apply ceq (D := [(42, some 0)]) rfl (by kernel_rfl)
  · intro ρ W ⟨p1,p2,p3⟩ hG hF K hK; (try simp [FD] at hF); have ⟨hc, hf, hz⟩ := bdr hG; go_simp; exact hK _ gv
  refine cny (V := SeeV k (w.heap.size + 2)) (D := [(43, some 0)]) rfl (by kernel_rfl) (SeeV.lasts _ _) ?_ ?_
  · intro ρ W ⟨p1,p2,p3⟩ hG hF K hK; (try simp [FD] at hF); have ⟨hc, hf, hz⟩ := bdr hG; go_simp; exact hK _ (gives_rel (see_rel k _ _ (HT.out _ (Gr.tr HG.out (Gr.tr (Gr.drew _) hG))) hok hpp (by have := hG.size; simp at this; omega)))
  refine cny (V := LkV k (w.heap.size + 2)) (D := [(41, some 3), (44, some 0)]) rfl (by kernel_rfl) (LkV.lasts _ _) ?_ ?_
  · intro ρ W ⟨p1,p2,p3⟩ hG hF K hK; (try simp [FD] at hF); obtain ⟨hF1, mb, hF2, hmb, hM⟩ := hF; rw [exec_buildRow (built71 k mb) rfl (by simp [hF1, hF2])]; exact hK _ ⟨⟨mb, rfl, hmb, hM⟩, Gr.same _⟩
  refine cdn ?_
  intro vs W hG hV
  obtain ⟨e4, -⟩ := hV
  simp only [Nat.reduceSub] at e4
  simp only [lay, Act.put, List.getElem?_toArray, List.getElem?_cons_succ, List.getElem?_cons_zero, Option.bind_some, List.setIfInBounds_toArray, List.set_cons_succ, List.set_cons_zero]
  generalize vs 0 = v0, vs 1 = v1, vs 2 = v2, vs 3 = v3
  generalize vs 4 = v4 at *
  obtain ⟨hc, hf, hz⟩ := bcell hG
  obtain ⟨mb, rfl, hmb, hM⟩ := e4
  clear c0 c1 c2 c3 c4 c5 c6 c7
  go_wp2_with (first | (with_reducible refine wpList_stopStore (ty := 71) rfl ?_; unfold Stop; refine wpList_storeBox (vs := k.lk mb) row71 rfl rfl (lk_one k mb) (HZ.out.grow hG) rfl rfl rfl rfl ?_))
  exact bodyPost_ret (v := .tuple #[.agg (k.lk mb).toArray, .int .i64 0]) (result_row2 row71 rfl ((HZ.out.grow hG).row (vs := k.lk mb)) rfl rfl rfl) rfl ⟨mb, rfl, by omega, hM.row (by omega) _, below_setRow (Gr.tr HG.out hG) (by omega) _⟩
theorem look_pair1 (k : Cd) (cb : Nat) (u : Cu) (w : World) (hT : TsA k.p.l (.slice k.sp k.p.l.length k.cap) w) (hcb : Box w cb [.int .i64 u.a, .int .i64 u.b, .int .i64 u.c, .int .i64 u.d] 30) (hpw : k.p.power = (0, 0, 1)) :
    Calls Tryz.prog 48 #[.agg k.cs.toArray, .slice (some ⟨cb, 0, none⟩) 1 1] w fun e w' => e = .returned (.tuple #[.agg Cd.zero.toArray, .int .i64 1]) ∧ Below w.heap.size w w' := by
  have HT := Lib.hid (fun (W : World) (hb : Below w.heap.size w W) => hT.below rfl hb)
  clear hT
  have HPW := Lib.hid hpw
  clear hpw
  have hl : k.cs.length = 17 := rfl
  have p0 : ∀ h : 0 < k.cs.length, k.cs[0] = .int .i64 k.p.fl := fun _ => rfl
  have p1 : ∀ h : 1 < k.cs.length, k.cs[1] = .int .i64 k.p.fh := fun _ => rfl
  have p2 : ∀ h : 2 < k.cs.length, k.cs[2] = .int .i64 k.p.bl := fun _ => rfl
  have p3 : ∀ h : 3 < k.cs.length, k.cs[3] = .int .i64 k.p.bh := fun _ => rfl
  have p4 : ∀ h : 4 < k.cs.length, k.cs[4] = .int .i64 k.p.ti := fun _ => rfl
  have p5 : ∀ h : 5 < k.cs.length, k.cs[5] = .int .i64 k.p.ne := fun _ => rfl
  have p6 : ∀ h : 6 < k.cs.length, k.cs[6] = .int .i64 k.p.fa := fun _ => rfl
  have p7 : ∀ h : 7 < k.cs.length, k.cs[7] = .slice k.sp k.p.l.length k.cap := fun _ => rfl
  have HC := Lib.hid hcb
  clear hcb
  have hz0 : Box ((w.alloc (Obj.cells k.cs.toArray 28)).alloc (Obj.cells Cd.zero.toArray 71)) (w.heap.size + 1) Cd.zero 71 := by
    have := Box.fresh (w.alloc (Obj.cells k.cs.toArray 28)) Cd.zero 71
    simpa using this
  have HZ0 := Lib.hid hz0
  clear hz0
  go_enter Tryz.func48, Tryz.ntmps48
  go_wp2_with fail
  refine (power_is (p := k.p) (v := .slice k.sp k.p.l.length k.cap) HPW.out (HT.out _ (((Below.refl _ _).alloc (Nat.le_refl _) _).alloc (by simp) _))).mono ?_
  rintro e w1 ⟨rfl, hb1⟩
  have HG1 := Lib.hid (show Gr w w1 from ((Gr.alloc _ _).tr (Gr.alloc _ _)).tr hb1)
  have HK1 := Lib.hid (((Box.fresh w k.cs 28).grow (Gr.alloc _ (Obj.cells Cd.zero.toArray 71))).grow hb1)
  have HZ1 := Lib.hid (HZ0.out.grow hb1)
  have hq1 : w.heap.size + 1 < w1.heap.size := HZ1.out.lt
  clear hb1
  have HG := Lib.hid (Gr.tr HG1.out (Gr.alloc w1 (.cells #[.int .i64 0, .int .i64 0] 23)))
  have HB := Lib.hid (HK1.out.grow (Gr.alloc w1 (.cells #[.int .i64 0, .int .i64 0] 23)))
  have HZ := Lib.hid (HZ1.out.grow (Gr.alloc w1 (.cells #[.int .i64 0, .int .i64 0] 23)))
  clear HG1 HK1 HZ1
  go_wp2_with (first | (with_reducible refine wsl (ty := 28) rfl ?_; unfold Stop; first | (refine wpList_loadBoxG row28 rfl (HB.out) rfl rfl rfl ?_) | (refine wlb row28 rfl (HB.out) rfl rfl rfl ?_)) | (with_reducible refine wpList_stopBuild (ty := 71) rfl ?_; unfold Stop; refine wpList_buildRow built71_0 rfl rfl (by simp) ?_) | (with_reducible refine wpList_stopStore (ty := 71) rfl ?_; unfold Stop; refine wpList_storeBox (vs := Cd.zero) row71 rfl rfl zero_one (HZ.out) rfl rfl rfl rfl ?_))
  exact bodyPost_ret (v := .tuple #[.agg Cd.zero.toArray, .int .i64 1]) (result_row2 row71 rfl (HZ.out.row (vs := Cd.zero)) rfl rfl rfl) rfl ⟨rfl, below_setRow HG.out (by omega) _⟩
theorem look_card1_4 (k : Cd) (cb : Nat) (u : Cu) (w : World) (hT : TsA k.p.l (.slice k.sp k.p.l.length k.cap) w) (hcb : Box w cb [.int .i64 u.a, .int .i64 u.b, .int .i64 u.c, .int .i64 u.d] 30) (hpw : k.p.power = (0, 0, 4)) (hkc : k.okc = false) :
    Calls Tryz.prog 48 #[.agg k.cs.toArray, .slice (some ⟨cb, 0, none⟩) 1 1] w fun e w' => e = .returned (.tuple #[.agg Cd.zero.toArray, .int .i64 1]) ∧ Below w.heap.size w w' := by
  have HT := Lib.hid (fun (W : World) (hb : Below w.heap.size w W) => hT.below rfl hb)
  clear hT
  have HPW := Lib.hid hpw
  clear hpw
  have hl : k.cs.length = 17 := rfl
  have p0 : ∀ h : 0 < k.cs.length, k.cs[0] = .int .i64 k.p.fl := fun _ => rfl
  have p1 : ∀ h : 1 < k.cs.length, k.cs[1] = .int .i64 k.p.fh := fun _ => rfl
  have p2 : ∀ h : 2 < k.cs.length, k.cs[2] = .int .i64 k.p.bl := fun _ => rfl
  have p3 : ∀ h : 3 < k.cs.length, k.cs[3] = .int .i64 k.p.bh := fun _ => rfl
  have p4 : ∀ h : 4 < k.cs.length, k.cs[4] = .int .i64 k.p.ti := fun _ => rfl
  have p5 : ∀ h : 5 < k.cs.length, k.cs[5] = .int .i64 k.p.ne := fun _ => rfl
  have p6 : ∀ h : 6 < k.cs.length, k.cs[6] = .int .i64 k.p.fa := fun _ => rfl
  have p7 : ∀ h : 7 < k.cs.length, k.cs[7] = .slice k.sp k.p.l.length k.cap := fun _ => rfl
  have HC := Lib.hid hcb
  clear hcb
  have hz0 : Box ((w.alloc (Obj.cells k.cs.toArray 28)).alloc (Obj.cells Cd.zero.toArray 71)) (w.heap.size + 1) Cd.zero 71 := by
    have := Box.fresh (w.alloc (Obj.cells k.cs.toArray 28)) Cd.zero 71
    simpa using this
  have HZ0 := Lib.hid hz0
  clear hz0
  go_enter Tryz.func48, Tryz.ntmps48
  go_wp2_with fail
  refine (power_is (p := k.p) (v := .slice k.sp k.p.l.length k.cap) HPW.out (HT.out _ (((Below.refl _ _).alloc (Nat.le_refl _) _).alloc (by simp) _))).mono ?_
  rintro e w1 ⟨rfl, hb1⟩
  have HG1 := Lib.hid (show Gr w w1 from ((Gr.alloc _ _).tr (Gr.alloc _ _)).tr hb1)
  have HK1 := Lib.hid (((Box.fresh w k.cs 28).grow (Gr.alloc _ (Obj.cells Cd.zero.toArray 71))).grow hb1)
  have HZ1 := Lib.hid (HZ0.out.grow hb1)
  have hq1 : w.heap.size + 1 < w1.heap.size := HZ1.out.lt
  clear hb1
  have HG := Lib.hid (Gr.tr HG1.out (Gr.alloc w1 (.cells #[.int .i64 0, .int .i64 0] 23)))
  have HB := Lib.hid (HK1.out.grow (Gr.alloc w1 (.cells #[.int .i64 0, .int .i64 0] 23)))
  have HZ := Lib.hid (HZ1.out.grow (Gr.alloc w1 (.cells #[.int .i64 0, .int .i64 0] 23)))
  clear HG1 HK1 HZ1
  go_wp2_with (first | (with_reducible refine wsl (ty := 28) rfl ?_; unfold Stop; first | (refine wpList_loadBoxG row28 rfl (HB.out) rfl rfl rfl ?_) | (refine wlb row28 rfl (HB.out) rfl rfl rfl ?_)) | (with_reducible refine wpList_stopBuild (ty := 71) rfl ?_; unfold Stop; refine wpList_buildRow built71_0 rfl rfl (by simp) ?_) | (with_reducible refine wpList_stopStore (ty := 71) rfl ?_; unfold Stop; refine wpList_storeBox (vs := Cd.zero) row71 rfl rfl zero_one (HZ.out) rfl rfl rfl rfl ?_))
  refine (mvalid_any k _).mono ?_
  rintro e w2 ⟨rfl, hb2⟩
  rw [hkc]
  have HG' := Lib.hid (Gr.tr HG.out hb2)
  have HB' := Lib.hid (HB.out.grow hb2)
  have HZ' := Lib.hid (HZ.out.grow hb2)
  clear HG HB HZ hb2
  have HG := HG'
  have HB := HB'
  have HZ := HZ'
  clear HG' HB' HZ'
  go_wp2_with (first | (with_reducible refine wsl (ty := 28) rfl ?_; unfold Stop; first | (refine wpList_loadBoxG row28 rfl (HB.out) rfl rfl rfl ?_) | (refine wlb row28 rfl (HB.out) rfl rfl rfl ?_)) | (with_reducible refine wpList_stopBuild (ty := 71) rfl ?_; unfold Stop; refine wpList_buildRow built71_0 rfl rfl (by simp) ?_) | (with_reducible refine wpList_stopStore (ty := 71) rfl ?_; unfold Stop; refine wpList_storeBox (vs := Cd.zero) row71 rfl rfl zero_one (HZ.out) rfl rfl rfl rfl ?_))
  exact bodyPost_ret (v := .tuple #[.agg Cd.zero.toArray, .int .i64 1]) (result_row2 row71 rfl (HZ.out.row (vs := Cd.zero)) rfl rfl rfl) rfl ⟨rfl, below_setRow HG.out (by omega) _⟩
theorem look_range1_4 (k : Cd) (cb : Nat) (u : Cu) (w : World) (hT : TsA k.p.l (.slice k.sp k.p.l.length k.cap) w) (hcb : Box w cb [.int .i64 u.a, .int .i64 u.b, .int .i64 u.c, .int .i64 u.d] 30) (hpw : k.p.power = (0, 0, 4)) (hkc : k.okc = true) (hut : u.isT k.cuts = false) :
    Calls Tryz.prog 48 #[.agg k.cs.toArray, .slice (some ⟨cb, 0, none⟩) 1 1] w fun e w' => e = .returned (.tuple #[.agg Cd.zero.toArray, .int .i64 2]) ∧ Below w.heap.size w w' := by
  have HT := Lib.hid (fun (W : World) (hb : Below w.heap.size w W) => hT.below rfl hb)
  clear hT
  have HPW := Lib.hid hpw
  clear hpw
  have hl : k.cs.length = 17 := rfl
  have p0 : ∀ h : 0 < k.cs.length, k.cs[0] = .int .i64 k.p.fl := fun _ => rfl
  have p1 : ∀ h : 1 < k.cs.length, k.cs[1] = .int .i64 k.p.fh := fun _ => rfl
  have p2 : ∀ h : 2 < k.cs.length, k.cs[2] = .int .i64 k.p.bl := fun _ => rfl
  have p3 : ∀ h : 3 < k.cs.length, k.cs[3] = .int .i64 k.p.bh := fun _ => rfl
  have p4 : ∀ h : 4 < k.cs.length, k.cs[4] = .int .i64 k.p.ti := fun _ => rfl
  have p5 : ∀ h : 5 < k.cs.length, k.cs[5] = .int .i64 k.p.ne := fun _ => rfl
  have p6 : ∀ h : 6 < k.cs.length, k.cs[6] = .int .i64 k.p.fa := fun _ => rfl
  have p7 : ∀ h : 7 < k.cs.length, k.cs[7] = .slice k.sp k.p.l.length k.cap := fun _ => rfl
  have HC := Lib.hid hcb
  clear hcb
  have hz0 : Box ((w.alloc (Obj.cells k.cs.toArray 28)).alloc (Obj.cells Cd.zero.toArray 71)) (w.heap.size + 1) Cd.zero 71 := by
    have := Box.fresh (w.alloc (Obj.cells k.cs.toArray 28)) Cd.zero 71
    simpa using this
  have HZ0 := Lib.hid hz0
  clear hz0
  go_enter Tryz.func48, Tryz.ntmps48
  go_wp2_with fail
  refine (power_is (p := k.p) (v := .slice k.sp k.p.l.length k.cap) HPW.out (HT.out _ (((Below.refl _ _).alloc (Nat.le_refl _) _).alloc (by simp) _))).mono ?_
  rintro e w1 ⟨rfl, hb1⟩
  have HG1 := Lib.hid (show Gr w w1 from ((Gr.alloc _ _).tr (Gr.alloc _ _)).tr hb1)
  have HK1 := Lib.hid (((Box.fresh w k.cs 28).grow (Gr.alloc _ (Obj.cells Cd.zero.toArray 71))).grow hb1)
  have HZ1 := Lib.hid (HZ0.out.grow hb1)
  have hq1 : w.heap.size + 1 < w1.heap.size := HZ1.out.lt
  clear hb1
  have HG := Lib.hid (Gr.tr HG1.out (Gr.alloc w1 (.cells #[.int .i64 0, .int .i64 0] 23)))
  have HB := Lib.hid (HK1.out.grow (Gr.alloc w1 (.cells #[.int .i64 0, .int .i64 0] 23)))
  have HZ := Lib.hid (HZ1.out.grow (Gr.alloc w1 (.cells #[.int .i64 0, .int .i64 0] 23)))
  clear HG1 HK1 HZ1
  go_wp2_with (first | (with_reducible refine wsl (ty := 28) rfl ?_; unfold Stop; first | (refine wpList_loadBoxG row28 rfl (HB.out) rfl rfl rfl ?_) | (refine wlb row28 rfl (HB.out) rfl rfl rfl ?_)) | (with_reducible refine wpList_stopBuild (ty := 71) rfl ?_; unfold Stop; refine wpList_buildRow built71_0 rfl rfl (by simp) ?_) | (with_reducible refine wpList_stopStore (ty := 71) rfl ?_; unfold Stop; refine wpList_storeBox (vs := Cd.zero) row71 rfl rfl zero_one (HZ.out) rfl rfl rfl rfl ?_))
  refine (mvalid_any k _).mono ?_
  rintro e w2 ⟨rfl, hb2⟩
  rw [hkc]
  have HG' := Lib.hid (Gr.tr HG.out hb2)
  have HB' := Lib.hid (HB.out.grow hb2)
  have HZ' := Lib.hid (HZ.out.grow hb2)
  clear HG HB HZ hb2
  have HG := HG'
  have HB := HB'
  have HZ := HZ'
  clear HG' HB' HZ'
  go_wp2_with fail
  refine wp_loop_rounds 2 ?_
  rw [rounds_succ]
  have hcw := HC.out.grow HG.out
  have hcl := hcw.lt
  have c0 := hcw.cell (i := 0) rfl
  have c1 := hcw.cell (i := 1) rfl
  have c2 := hcw.cell (i := 2) rfl
  have c3 := hcw.cell (i := 3) rfl
  clear hcw
  have kl := HB.out.lt
  have k10 := HB.out.cell (i := 10) rfl
  have hal := @cal
  go_wp2_with fail
  refine (isT_any u k.cuts _ (by have := okc_cuts hkc; omega)).mono ?_
  rintro e w3 ⟨rfl, hb3⟩
  rw [hut]
  clear c0 c1 c2 c3 hcl kl k10 hal
  have HG' := Lib.hid (Gr.tr HG.out ((Gr.alloc _ _).tr hb3))
  have HB' := Lib.hid (HB.out.grow ((Gr.alloc _ _).tr hb3))
  have HZ' := Lib.hid (HZ.out.grow ((Gr.alloc _ _).tr hb3))
  clear HG HB HZ hb3
  have HG := HG'
  have HB := HB'
  have HZ := HZ'
  clear HG' HB' HZ'
  go_wp2_with (first | (with_reducible refine wsl (ty := 28) rfl ?_; unfold Stop; first | (refine wpList_loadBoxG row28 rfl (HB.out) rfl rfl rfl ?_) | (refine wlb row28 rfl (HB.out) rfl rfl rfl ?_)) | (with_reducible refine wpList_stopBuild (ty := 71) rfl ?_; unfold Stop; refine wpList_buildRow built71_0 rfl rfl (by simp) ?_) | (with_reducible refine wpList_stopStore (ty := 71) rfl ?_; unfold Stop; refine wpList_storeBox (vs := Cd.zero) row71 rfl rfl zero_one (HZ.out) rfl rfl rfl rfl ?_))
  exact bodyPost_ret (v := .tuple #[.agg Cd.zero.toArray, .int .i64 2]) (result_row2 row71 rfl (HZ.out.row (vs := Cd.zero)) rfl rfl rfl) rfl ⟨rfl, below_setRow HG.out (by omega) _⟩
theorem look_end1_4 (k : Cd) (cb : Nat) (u : Cu) (w : World) (hT : TsA k.p.l (.slice k.sp k.p.l.length k.cap) w) (hcb : Box w cb [.int .i64 u.a, .int .i64 u.b, .int .i64 u.c, .int .i64 u.d] 30) (hpw : k.p.power = (0, 0, 4)) (hkc : k.okc = true) (hut : u.isT k.cuts = true) :
    Calls Tryz.prog 48 #[.agg k.cs.toArray, .slice (some ⟨cb, 0, none⟩) 1 1] w fun e w' => e = .returned (.tuple #[.agg Cd.zero.toArray, .int .i64 4]) ∧ Below w.heap.size w w' := by
  have HT := Lib.hid (fun (W : World) (hb : Below w.heap.size w W) => hT.below rfl hb)
  clear hT
  have HPW := Lib.hid hpw
  clear hpw
  have hl : k.cs.length = 17 := rfl
  have p0 : ∀ h : 0 < k.cs.length, k.cs[0] = .int .i64 k.p.fl := fun _ => rfl
  have p1 : ∀ h : 1 < k.cs.length, k.cs[1] = .int .i64 k.p.fh := fun _ => rfl
  have p2 : ∀ h : 2 < k.cs.length, k.cs[2] = .int .i64 k.p.bl := fun _ => rfl
  have p3 : ∀ h : 3 < k.cs.length, k.cs[3] = .int .i64 k.p.bh := fun _ => rfl
  have p4 : ∀ h : 4 < k.cs.length, k.cs[4] = .int .i64 k.p.ti := fun _ => rfl
  have p5 : ∀ h : 5 < k.cs.length, k.cs[5] = .int .i64 k.p.ne := fun _ => rfl
  have p6 : ∀ h : 6 < k.cs.length, k.cs[6] = .int .i64 k.p.fa := fun _ => rfl
  have p7 : ∀ h : 7 < k.cs.length, k.cs[7] = .slice k.sp k.p.l.length k.cap := fun _ => rfl
  have HC := Lib.hid hcb
  clear hcb
  have hz0 : Box ((w.alloc (Obj.cells k.cs.toArray 28)).alloc (Obj.cells Cd.zero.toArray 71)) (w.heap.size + 1) Cd.zero 71 := by
    have := Box.fresh (w.alloc (Obj.cells k.cs.toArray 28)) Cd.zero 71
    simpa using this
  have HZ0 := Lib.hid hz0
  clear hz0
  go_enter Tryz.func48, Tryz.ntmps48
  go_wp2_with fail
  refine (power_is (p := k.p) (v := .slice k.sp k.p.l.length k.cap) HPW.out (HT.out _ (((Below.refl _ _).alloc (Nat.le_refl _) _).alloc (by simp) _))).mono ?_
  rintro e w1 ⟨rfl, hb1⟩
  have HG1 := Lib.hid (show Gr w w1 from ((Gr.alloc _ _).tr (Gr.alloc _ _)).tr hb1)
  have HK1 := Lib.hid (((Box.fresh w k.cs 28).grow (Gr.alloc _ (Obj.cells Cd.zero.toArray 71))).grow hb1)
  have HZ1 := Lib.hid (HZ0.out.grow hb1)
  have hq1 : w.heap.size + 1 < w1.heap.size := HZ1.out.lt
  clear hb1
  have HG := Lib.hid (Gr.tr HG1.out (Gr.alloc w1 (.cells #[.int .i64 0, .int .i64 0] 23)))
  have HB := Lib.hid (HK1.out.grow (Gr.alloc w1 (.cells #[.int .i64 0, .int .i64 0] 23)))
  have HZ := Lib.hid (HZ1.out.grow (Gr.alloc w1 (.cells #[.int .i64 0, .int .i64 0] 23)))
  clear HG1 HK1 HZ1
  go_wp2_with (first | (with_reducible refine wsl (ty := 28) rfl ?_; unfold Stop; first | (refine wpList_loadBoxG row28 rfl (HB.out) rfl rfl rfl ?_) | (refine wlb row28 rfl (HB.out) rfl rfl rfl ?_)) | (with_reducible refine wpList_stopBuild (ty := 71) rfl ?_; unfold Stop; refine wpList_buildRow built71_0 rfl rfl (by simp) ?_) | (with_reducible refine wpList_stopStore (ty := 71) rfl ?_; unfold Stop; refine wpList_storeBox (vs := Cd.zero) row71 rfl rfl zero_one (HZ.out) rfl rfl rfl rfl ?_))
  refine (mvalid_any k _).mono ?_
  rintro e w2 ⟨rfl, hb2⟩
  rw [hkc]
  have HG' := Lib.hid (Gr.tr HG.out hb2)
  have HB' := Lib.hid (HB.out.grow hb2)
  have HZ' := Lib.hid (HZ.out.grow hb2)
  clear HG HB HZ hb2
  have HG := HG'
  have HB := HB'
  have HZ := HZ'
  clear HG' HB' HZ'
  go_wp2_with fail
  refine wp_loop_rounds 2 ?_
  rw [rounds_succ]
  have hcw := HC.out.grow HG.out
  have hcl := hcw.lt
  have c0 := hcw.cell (i := 0) rfl
  have c1 := hcw.cell (i := 1) rfl
  have c2 := hcw.cell (i := 2) rfl
  have c3 := hcw.cell (i := 3) rfl
  clear hcw
  have kl := HB.out.lt
  have k10 := HB.out.cell (i := 10) rfl
  have hal := @cal
  go_wp2_with fail
  refine (isT_any u k.cuts _ (by have := okc_cuts hkc; omega)).mono ?_
  rintro e w3 ⟨rfl, hb3⟩
  rw [hut]
  clear c0 c1 c2 c3 hcl kl k10 hal
  have HG' := Lib.hid (Gr.tr HG.out ((Gr.alloc _ _).tr hb3))
  have HB' := Lib.hid (HB.out.grow ((Gr.alloc _ _).tr hb3))
  have HZ' := Lib.hid (HZ.out.grow ((Gr.alloc _ _).tr hb3))
  clear HG HB HZ hb3
  have HG := HG'
  have HB := HB'
  have HZ := HZ'
  clear HG' HB' HZ'
  go_wp2_with fail
  rw [rounds_succ]
  go_wp2_with (first | (with_reducible refine wsl (ty := 28) rfl ?_; unfold Stop; first | (refine wpList_loadBoxG row28 rfl (HB.out) rfl rfl rfl ?_) | (refine wlb row28 rfl (HB.out) rfl rfl rfl ?_)) | (with_reducible refine wpList_stopBuild (ty := 71) rfl ?_; unfold Stop; refine wpList_buildRow built71_0 rfl rfl (by simp) ?_) | (with_reducible refine wpList_stopStore (ty := 71) rfl ?_; unfold Stop; refine wpList_storeBox (vs := Cd.zero) row71 rfl rfl zero_one (HZ.out) rfl rfl rfl rfl ?_))
  exact bodyPost_ret (v := .tuple #[.agg Cd.zero.toArray, .int .i64 4]) (result_row2 row71 rfl (HZ.out.row (vs := Cd.zero)) rfl rfl rfl) rfl ⟨rfl, below_setRow HG.out (by omega) _⟩
theorem look_card1_0 (k : Cd) (cb : Nat) (u : Cu) (w : World) (hT : TsA k.p.l (.slice k.sp k.p.l.length k.cap) w) (hcb : Box w cb [.int .i64 u.a, .int .i64 u.b, .int .i64 u.c, .int .i64 u.d] 30) (x y : Int) (hpw : k.p.power = (x, y, 0)) (hkc : k.okc = false) :
    Calls Tryz.prog 48 #[.agg k.cs.toArray, .slice (some ⟨cb, 0, none⟩) 1 1] w fun e w' => e = .returned (.tuple #[.agg Cd.zero.toArray, .int .i64 1]) ∧ Below w.heap.size w w' := by
  have HT := Lib.hid (fun (W : World) (hb : Below w.heap.size w W) => hT.below rfl hb)
  clear hT
  have HPW := Lib.hid hpw
  clear hpw
  have hl : k.cs.length = 17 := rfl
  have p0 : ∀ h : 0 < k.cs.length, k.cs[0] = .int .i64 k.p.fl := fun _ => rfl
  have p1 : ∀ h : 1 < k.cs.length, k.cs[1] = .int .i64 k.p.fh := fun _ => rfl
  have p2 : ∀ h : 2 < k.cs.length, k.cs[2] = .int .i64 k.p.bl := fun _ => rfl
  have p3 : ∀ h : 3 < k.cs.length, k.cs[3] = .int .i64 k.p.bh := fun _ => rfl
  have p4 : ∀ h : 4 < k.cs.length, k.cs[4] = .int .i64 k.p.ti := fun _ => rfl
  have p5 : ∀ h : 5 < k.cs.length, k.cs[5] = .int .i64 k.p.ne := fun _ => rfl
  have p6 : ∀ h : 6 < k.cs.length, k.cs[6] = .int .i64 k.p.fa := fun _ => rfl
  have p7 : ∀ h : 7 < k.cs.length, k.cs[7] = .slice k.sp k.p.l.length k.cap := fun _ => rfl
  have HC := Lib.hid hcb
  clear hcb
  have hz0 : Box ((w.alloc (Obj.cells k.cs.toArray 28)).alloc (Obj.cells Cd.zero.toArray 71)) (w.heap.size + 1) Cd.zero 71 := by
    have := Box.fresh (w.alloc (Obj.cells k.cs.toArray 28)) Cd.zero 71
    simpa using this
  have HZ0 := Lib.hid hz0
  clear hz0
  go_enter Tryz.func48, Tryz.ntmps48
  go_wp2_with fail
  refine (power_is (p := k.p) (v := .slice k.sp k.p.l.length k.cap) HPW.out (HT.out _ (((Below.refl _ _).alloc (Nat.le_refl _) _).alloc (by simp) _))).mono ?_
  rintro e w1 ⟨rfl, hb1⟩
  have HG1 := Lib.hid (show Gr w w1 from ((Gr.alloc _ _).tr (Gr.alloc _ _)).tr hb1)
  have HK1 := Lib.hid (((Box.fresh w k.cs 28).grow (Gr.alloc _ (Obj.cells Cd.zero.toArray 71))).grow hb1)
  have HZ1 := Lib.hid (HZ0.out.grow hb1)
  have hq1 : w.heap.size + 1 < w1.heap.size := HZ1.out.lt
  clear hb1
  have HG := Lib.hid (Gr.tr HG1.out (Gr.alloc w1 (.cells #[.int .i64 x, .int .i64 y] 23)))
  have HB := Lib.hid (HK1.out.grow (Gr.alloc w1 (.cells #[.int .i64 x, .int .i64 y] 23)))
  have HZ := Lib.hid (HZ1.out.grow (Gr.alloc w1 (.cells #[.int .i64 x, .int .i64 y] 23)))
  clear HG1 HK1 HZ1
  go_wp2_with (first | (with_reducible refine wsl (ty := 28) rfl ?_; unfold Stop; first | (refine wpList_loadBoxG row28 rfl (HB.out) rfl rfl rfl ?_) | (refine wlb row28 rfl (HB.out) rfl rfl rfl ?_)) | (with_reducible refine wpList_stopBuild (ty := 71) rfl ?_; unfold Stop; refine wpList_buildRow built71_0 rfl rfl (by simp) ?_) | (with_reducible refine wpList_stopStore (ty := 71) rfl ?_; unfold Stop; refine wpList_storeBox (vs := Cd.zero) row71 rfl rfl zero_one (HZ.out) rfl rfl rfl rfl ?_))
  refine (mvalid_any k _).mono ?_
  rintro e w2 ⟨rfl, hb2⟩
  rw [hkc]
  have HG' := Lib.hid (Gr.tr HG.out hb2)
  have HB' := Lib.hid (HB.out.grow hb2)
  have HZ' := Lib.hid (HZ.out.grow hb2)
  clear HG HB HZ hb2
  have HG := HG'
  have HB := HB'
  have HZ := HZ'
  clear HG' HB' HZ'
  go_wp2_with (first | (with_reducible refine wsl (ty := 28) rfl ?_; unfold Stop; first | (refine wpList_loadBoxG row28 rfl (HB.out) rfl rfl rfl ?_) | (refine wlb row28 rfl (HB.out) rfl rfl rfl ?_)) | (with_reducible refine wpList_stopBuild (ty := 71) rfl ?_; unfold Stop; refine wpList_buildRow built71_0 rfl rfl (by simp) ?_) | (with_reducible refine wpList_stopStore (ty := 71) rfl ?_; unfold Stop; refine wpList_storeBox (vs := Cd.zero) row71 rfl rfl zero_one (HZ.out) rfl rfl rfl rfl ?_))
  exact bodyPost_ret (v := .tuple #[.agg Cd.zero.toArray, .int .i64 1]) (result_row2 row71 rfl (HZ.out.row (vs := Cd.zero)) rfl rfl rfl) rfl ⟨rfl, below_setRow HG.out (by omega) _⟩
theorem look_range1_0 (k : Cd) (cb : Nat) (u : Cu) (w : World) (hT : TsA k.p.l (.slice k.sp k.p.l.length k.cap) w) (hcb : Box w cb [.int .i64 u.a, .int .i64 u.b, .int .i64 u.c, .int .i64 u.d] 30) (x y : Int) (hpw : k.p.power = (x, y, 0)) (hkc : k.okc = true) (hut : u.isT k.cuts = false) :
    Calls Tryz.prog 48 #[.agg k.cs.toArray, .slice (some ⟨cb, 0, none⟩) 1 1] w fun e w' => e = .returned (.tuple #[.agg Cd.zero.toArray, .int .i64 2]) ∧ Below w.heap.size w w' := by
  have HT := Lib.hid (fun (W : World) (hb : Below w.heap.size w W) => hT.below rfl hb)
  clear hT
  have HPW := Lib.hid hpw
  clear hpw
  have hl : k.cs.length = 17 := rfl
  have p0 : ∀ h : 0 < k.cs.length, k.cs[0] = .int .i64 k.p.fl := fun _ => rfl
  have p1 : ∀ h : 1 < k.cs.length, k.cs[1] = .int .i64 k.p.fh := fun _ => rfl
  have p2 : ∀ h : 2 < k.cs.length, k.cs[2] = .int .i64 k.p.bl := fun _ => rfl
  have p3 : ∀ h : 3 < k.cs.length, k.cs[3] = .int .i64 k.p.bh := fun _ => rfl
  have p4 : ∀ h : 4 < k.cs.length, k.cs[4] = .int .i64 k.p.ti := fun _ => rfl
  have p5 : ∀ h : 5 < k.cs.length, k.cs[5] = .int .i64 k.p.ne := fun _ => rfl
  have p6 : ∀ h : 6 < k.cs.length, k.cs[6] = .int .i64 k.p.fa := fun _ => rfl
  have p7 : ∀ h : 7 < k.cs.length, k.cs[7] = .slice k.sp k.p.l.length k.cap := fun _ => rfl
  have HC := Lib.hid hcb
  clear hcb
  have hz0 : Box ((w.alloc (Obj.cells k.cs.toArray 28)).alloc (Obj.cells Cd.zero.toArray 71)) (w.heap.size + 1) Cd.zero 71 := by
    have := Box.fresh (w.alloc (Obj.cells k.cs.toArray 28)) Cd.zero 71
    simpa using this
  have HZ0 := Lib.hid hz0
  clear hz0
  go_enter Tryz.func48, Tryz.ntmps48
  go_wp2_with fail
  refine (power_is (p := k.p) (v := .slice k.sp k.p.l.length k.cap) HPW.out (HT.out _ (((Below.refl _ _).alloc (Nat.le_refl _) _).alloc (by simp) _))).mono ?_
  rintro e w1 ⟨rfl, hb1⟩
  have HG1 := Lib.hid (show Gr w w1 from ((Gr.alloc _ _).tr (Gr.alloc _ _)).tr hb1)
  have HK1 := Lib.hid (((Box.fresh w k.cs 28).grow (Gr.alloc _ (Obj.cells Cd.zero.toArray 71))).grow hb1)
  have HZ1 := Lib.hid (HZ0.out.grow hb1)
  have hq1 : w.heap.size + 1 < w1.heap.size := HZ1.out.lt
  clear hb1
  have HG := Lib.hid (Gr.tr HG1.out (Gr.alloc w1 (.cells #[.int .i64 x, .int .i64 y] 23)))
  have HB := Lib.hid (HK1.out.grow (Gr.alloc w1 (.cells #[.int .i64 x, .int .i64 y] 23)))
  have HZ := Lib.hid (HZ1.out.grow (Gr.alloc w1 (.cells #[.int .i64 x, .int .i64 y] 23)))
  clear HG1 HK1 HZ1
  go_wp2_with (first | (with_reducible refine wsl (ty := 28) rfl ?_; unfold Stop; first | (refine wpList_loadBoxG row28 rfl (HB.out) rfl rfl rfl ?_) | (refine wlb row28 rfl (HB.out) rfl rfl rfl ?_)) | (with_reducible refine wpList_stopBuild (ty := 71) rfl ?_; unfold Stop; refine wpList_buildRow built71_0 rfl rfl (by simp) ?_) | (with_reducible refine wpList_stopStore (ty := 71) rfl ?_; unfold Stop; refine wpList_storeBox (vs := Cd.zero) row71 rfl rfl zero_one (HZ.out) rfl rfl rfl rfl ?_))
  refine (mvalid_any k _).mono ?_
  rintro e w2 ⟨rfl, hb2⟩
  rw [hkc]
  have HG' := Lib.hid (Gr.tr HG.out hb2)
  have HB' := Lib.hid (HB.out.grow hb2)
  have HZ' := Lib.hid (HZ.out.grow hb2)
  clear HG HB HZ hb2
  have HG := HG'
  have HB := HB'
  have HZ := HZ'
  clear HG' HB' HZ'
  go_wp2_with fail
  refine wp_loop_rounds 2 ?_
  rw [rounds_succ]
  have hcw := HC.out.grow HG.out
  have hcl := hcw.lt
  have c0 := hcw.cell (i := 0) rfl
  have c1 := hcw.cell (i := 1) rfl
  have c2 := hcw.cell (i := 2) rfl
  have c3 := hcw.cell (i := 3) rfl
  clear hcw
  have kl := HB.out.lt
  have k10 := HB.out.cell (i := 10) rfl
  have hal := @cal
  go_wp2_with fail
  refine (isT_any u k.cuts _ (by have := okc_cuts hkc; omega)).mono ?_
  rintro e w3 ⟨rfl, hb3⟩
  rw [hut]
  clear c0 c1 c2 c3 hcl kl k10 hal
  have HG' := Lib.hid (Gr.tr HG.out ((Gr.alloc _ _).tr hb3))
  have HB' := Lib.hid (HB.out.grow ((Gr.alloc _ _).tr hb3))
  have HZ' := Lib.hid (HZ.out.grow ((Gr.alloc _ _).tr hb3))
  clear HG HB HZ hb3
  have HG := HG'
  have HB := HB'
  have HZ := HZ'
  clear HG' HB' HZ'
  go_wp2_with (first | (with_reducible refine wsl (ty := 28) rfl ?_; unfold Stop; first | (refine wpList_loadBoxG row28 rfl (HB.out) rfl rfl rfl ?_) | (refine wlb row28 rfl (HB.out) rfl rfl rfl ?_)) | (with_reducible refine wpList_stopBuild (ty := 71) rfl ?_; unfold Stop; refine wpList_buildRow built71_0 rfl rfl (by simp) ?_) | (with_reducible refine wpList_stopStore (ty := 71) rfl ?_; unfold Stop; refine wpList_storeBox (vs := Cd.zero) row71 rfl rfl zero_one (HZ.out) rfl rfl rfl rfl ?_))
  exact bodyPost_ret (v := .tuple #[.agg Cd.zero.toArray, .int .i64 2]) (result_row2 row71 rfl (HZ.out.row (vs := Cd.zero)) rfl rfl rfl) rfl ⟨rfl, below_setRow HG.out (by omega) _⟩
theorem look_end1_0 (k : Cd) (cb : Nat) (u : Cu) (w : World) (hT : TsA k.p.l (.slice k.sp k.p.l.length k.cap) w) (hcb : Box w cb [.int .i64 u.a, .int .i64 u.b, .int .i64 u.c, .int .i64 u.d] 30) (x y : Int) (hpw : k.p.power = (x, y, 0)) (hkc : k.okc = true) (hut : u.isT k.cuts = true) (hok : k.p.ok = true) (hpp : k.p.pw.1 ≤ k.p.pw.2) :
    Calls Tryz.prog 48 #[.agg k.cs.toArray, .slice (some ⟨cb, 0, none⟩) 1 1] w fun e w' => ∃ mb, e = .returned (.tuple #[.agg (k.lk mb).toArray, .int .i64 0]) ∧ w.heap.size ≤ mb ∧ MapAt k.p.sees mb w' ∧ Below w.heap.size w w' := by
  have HT := Lib.hid (fun (W : World) (hb : Below w.heap.size w W) => hT.below rfl hb)
  clear hT
  have HPW := Lib.hid hpw
  clear hpw
  have hl : k.cs.length = 17 := rfl
  have p0 : ∀ h : 0 < k.cs.length, k.cs[0] = .int .i64 k.p.fl := fun _ => rfl
  have p1 : ∀ h : 1 < k.cs.length, k.cs[1] = .int .i64 k.p.fh := fun _ => rfl
  have p2 : ∀ h : 2 < k.cs.length, k.cs[2] = .int .i64 k.p.bl := fun _ => rfl
  have p3 : ∀ h : 3 < k.cs.length, k.cs[3] = .int .i64 k.p.bh := fun _ => rfl
  have p4 : ∀ h : 4 < k.cs.length, k.cs[4] = .int .i64 k.p.ti := fun _ => rfl
  have p5 : ∀ h : 5 < k.cs.length, k.cs[5] = .int .i64 k.p.ne := fun _ => rfl
  have p6 : ∀ h : 6 < k.cs.length, k.cs[6] = .int .i64 k.p.fa := fun _ => rfl
  have p7 : ∀ h : 7 < k.cs.length, k.cs[7] = .slice k.sp k.p.l.length k.cap := fun _ => rfl
  have HC := Lib.hid hcb
  clear hcb
  have hz0 : Box ((w.alloc (Obj.cells k.cs.toArray 28)).alloc (Obj.cells Cd.zero.toArray 71)) (w.heap.size + 1) Cd.zero 71 := by
    have := Box.fresh (w.alloc (Obj.cells k.cs.toArray 28)) Cd.zero 71
    simpa using this
  have HZ0 := Lib.hid hz0
  clear hz0
  go_enter Tryz.func48, Tryz.ntmps48
  go_wp2_with fail
  refine (power_is (p := k.p) (v := .slice k.sp k.p.l.length k.cap) HPW.out (HT.out _ (((Below.refl _ _).alloc (Nat.le_refl _) _).alloc (by simp) _))).mono ?_
  rintro e w1 ⟨rfl, hb1⟩
  have HG1 := Lib.hid (show Gr w w1 from ((Gr.alloc _ _).tr (Gr.alloc _ _)).tr hb1)
  have HK1 := Lib.hid (((Box.fresh w k.cs 28).grow (Gr.alloc _ (Obj.cells Cd.zero.toArray 71))).grow hb1)
  have HZ1 := Lib.hid (HZ0.out.grow hb1)
  have hq1 : w.heap.size + 1 < w1.heap.size := HZ1.out.lt
  clear hb1
  have HG := Lib.hid (Gr.tr HG1.out (Gr.alloc w1 (.cells #[.int .i64 x, .int .i64 y] 23)))
  have HB := Lib.hid (HK1.out.grow (Gr.alloc w1 (.cells #[.int .i64 x, .int .i64 y] 23)))
  have HZ := Lib.hid (HZ1.out.grow (Gr.alloc w1 (.cells #[.int .i64 x, .int .i64 y] 23)))
  clear HG1 HK1 HZ1
  go_wp2_with (first | (with_reducible refine wsl (ty := 28) rfl ?_; unfold Stop; first | (refine wpList_loadBoxG row28 rfl (HB.out) rfl rfl rfl ?_) | (refine wlb row28 rfl (HB.out) rfl rfl rfl ?_)) | (with_reducible refine wpList_stopBuild (ty := 71) rfl ?_; unfold Stop; refine wpList_buildRow built71_0 rfl rfl (by simp) ?_) | (with_reducible refine wpList_stopStore (ty := 71) rfl ?_; unfold Stop; refine wpList_storeBox (vs := Cd.zero) row71 rfl rfl zero_one (HZ.out) rfl rfl rfl rfl ?_))
  refine (mvalid_any k _).mono ?_
  rintro e w2 ⟨rfl, hb2⟩
  rw [hkc]
  have HG' := Lib.hid (Gr.tr HG.out hb2)
  have HB' := Lib.hid (HB.out.grow hb2)
  have HZ' := Lib.hid (HZ.out.grow hb2)
  clear HG HB HZ hb2
  have HG := HG'
  have HB := HB'
  have HZ := HZ'
  clear HG' HB' HZ'
  go_wp2_with fail
  refine wp_loop_rounds 2 ?_
  rw [rounds_succ]
  have hcw := HC.out.grow HG.out
  have hcl := hcw.lt
  have c0 := hcw.cell (i := 0) rfl
  have c1 := hcw.cell (i := 1) rfl
  have c2 := hcw.cell (i := 2) rfl
  have c3 := hcw.cell (i := 3) rfl
  clear hcw
  have kl := HB.out.lt
  have k10 := HB.out.cell (i := 10) rfl
  have hal := @cal
  go_wp2_with fail
  refine (isT_any u k.cuts _ (by have := okc_cuts hkc; omega)).mono ?_
  rintro e w3 ⟨rfl, hb3⟩
  rw [hut]
  clear c0 c1 c2 c3 hcl kl k10 hal
  have HG' := Lib.hid (Gr.tr HG.out ((Gr.alloc _ _).tr hb3))
  have HB' := Lib.hid (HB.out.grow ((Gr.alloc _ _).tr hb3))
  have HZ' := Lib.hid (HZ.out.grow ((Gr.alloc _ _).tr hb3))
  clear HG HB HZ hb3
  have HG := HG'
  have HB := HB'
  have HZ := HZ'
  clear HG' HB' HZ'
  go_wp2_with fail
  rw [rounds_succ]
  go_wp2_with (first | (with_reducible refine wsl (ty := 28) rfl ?_; unfold Stop; first | (refine wpList_loadBoxG row28 rfl (HB.out) rfl rfl rfl ?_) | (refine wlb row28 rfl (HB.out) rfl rfl rfl ?_)) | (with_reducible refine wpList_stopBuild (ty := 71) rfl ?_; unfold Stop; refine wpList_buildRow built71_0 rfl rfl (by simp) ?_) | (with_reducible refine wpList_stopStore (ty := 71) rfl ?_; unfold Stop; refine wpList_storeBox (vs := Cd.zero) row71 rfl rfl zero_one (HZ.out) rfl rfl rfl rfl ?_))
  have kl := HB.out.lt
  have zl := HZ.out.lt
  have c0 := HB.out.cell (i := 0) rfl
  have c1 := HB.out.cell (i := 1) rfl
  have c2 := HB.out.cell (i := 2) rfl
  have c3 := HB.out.cell (i := 3) rfl
  have c4 := HB.out.cell (i := 4) rfl
  have c5 := HB.out.cell (i := 5) rfl
  have c6 := HB.out.cell (i := 6) rfl
  have c7 := HB.out.cell (i := 7) rfl
  refine region2 5 ?_ ?_ ?_
  · kernel_rfl
  · kernel_rfl
  simp only [List.take_succ_cons, List.take_zero, List.drop_succ_cons, List.drop_zero]
  apply ceq (D := [(2, none)]) rfl (by kernel_rfl)
  · intro ρ W ⟨p1,p2,p3⟩ hG hF K hK; (try simp [FD] at hF); rw [xlb row28 rfl (HB.out.grow (Gr.tr (Gr.drew _) hG)) rfl hF]; exact hK _ gv
  apply ceq (D := [(2, none)]) rfl (by kernel_rfl)
  · intro ρ W ⟨p1,p2,p3⟩ hG hF K hK; (try simp [FD] at hF); have ⟨hc, hf, hz⟩ := bdr hG; go_simp; exact hK _ gv
  apply ceq (D := [(42, some 0)]) rfl (by kernel_rfl)
  · intro ρ W ⟨p1,p2,p3⟩ hG hF K hK; (try simp [FD] at hF); have ⟨hc, hf, hz⟩ := bdr hG; go_simp; exact hK _ gv
  refine cny (V := SeeV k (w.heap.size + 2)) (D := [(43, some 0)]) rfl (by kernel_rfl) (SeeV.lasts _ _) ?_ ?_
  · intro ρ W ⟨p1,p2,p3⟩ hG hF K hK; (try simp [FD] at hF); have ⟨hc, hf, hz⟩ := bdr hG; go_simp; exact hK _ (gives_rel (see_rel k _ _ (HT.out _ (Gr.tr HG.out (Gr.tr (Gr.drew _) hG))) hok hpp (by have := hG.size; simp at this; omega)))
  refine cny (V := LkV k (w.heap.size + 2)) (D := [(41, some 3), (44, some 0)]) rfl (by kernel_rfl) (LkV.lasts _ _) ?_ ?_
  · intro ρ W ⟨p1,p2,p3⟩ hG hF K hK; (try simp [FD] at hF); obtain ⟨hF1, mb, hF2, hmb, hM⟩ := hF; rw [exec_buildRow (built71 k mb) rfl (by simp [hF1, hF2])]; exact hK _ ⟨⟨mb, rfl, hmb, hM⟩, Gr.same _⟩
  refine cdn ?_
  intro vs W hG hV
  obtain ⟨e4, -⟩ := hV
  simp only [Nat.reduceSub] at e4
  simp only [lay, Act.put, List.getElem?_toArray, List.getElem?_cons_succ, List.getElem?_cons_zero, Option.bind_some, List.setIfInBounds_toArray, List.set_cons_succ, List.set_cons_zero]
  generalize vs 0 = v0, vs 1 = v1, vs 2 = v2, vs 3 = v3
  generalize vs 4 = v4 at *
  obtain ⟨hc, hf, hz⟩ := bcell hG
  obtain ⟨mb, rfl, hmb, hM⟩ := e4
  clear c0 c1 c2 c3 c4 c5 c6 c7
  go_wp2_with (first | (with_reducible refine wpList_stopStore (ty := 71) rfl ?_; unfold Stop; refine wpList_storeBox (vs := k.lk mb) row71 rfl rfl (lk_one k mb) (HZ.out.grow hG) rfl rfl rfl rfl ?_))
  exact bodyPost_ret (v := .tuple #[.agg (k.lk mb).toArray, .int .i64 0]) (result_row2 row71 rfl ((HZ.out.grow hG).row (vs := k.lk mb)) rfl rfl rfl) rfl ⟨mb, rfl, by omega, hM.row (by omega) _, below_setRow (Gr.tr HG.out hG) (by omega) _⟩
end Go.Proofs.YtcngaohfemdfjaaGreat
