import Derived.Test.YtcngaohfemdfjaaGreatY34
import Derived.Test.YtcngaohfemdfjaaGreatY33
import Derived.Test.YtcngaohfemdfjaaGreatX44
import Derived.Test.YtcngaohfemdfjaaGreatX45
import Derived.Test.YtcngaohfemdfjaaGreatX51
import Derived.RegionTactic
import Derived.Deep.RegionWith
import Derived.Deep.CutBlock
import Derived.Deep.DeepCutAuto
set_option linter.unusedVariables false
set_option linter.unusedSimpArgs false
namespace Go.Proofs.YtcngaohfemdfjaaGreat
open Go.RowKit
/-- Some cells of a block, read as a row, behind a guard that says yes. -/
theorem wpList_loadPartW {P : Program} {ops : Array Oper} {rest : List Oper} {o : Oper} {a : Act} {w : World} {Q : Exit → Act → World → Prop} {vs us : List Value} {T ty : TypeId} {x : Operand} {g i n : Nat} (hr : rowOf P ty n = true) (hn : us.length = n) (hg : Box w g vs T) (hu : (vs.drop i).take n = us)
    (ho : o.op = .load ty x) (hw : Region.wanted o (yielded ops a.tmps) = true) (hx : a.eval x = .pointer (some ⟨g, i, none⟩))
    (h : wpList P ops Q rest (a.put o.dst (.agg us.toArray)) w) : wpList P ops Q (o :: rest) a w := by
  refine BigFrame.wpList_want hw fun K hK => ?_
  unfold Oper.wp execOp
  simp only [ho, hx, Instr.loadAt, Instr.sureAddr, Sem.run_bind, Sem.run_pure, Result.andThen_ok, run_loadPart hr hn hg hu]
  exact hK _ _ h
theorem Cd.wholeW (k : Cd) : (k.cs.drop 0).take 17 = k.cs := rfl
set_option maxRecDepth 100000 in
set_option maxHeartbeats 2000000 in
theorem lwhy_many (k : Cd) (v : Value) (w : World) (hl : 40 < k.p.l.length) :
    Calls Tryz.prog 7 #[.agg k.cs.toArray, v] w fun e w' => e = .returned (.bool true) ∧ Below w.heap.size w w' := by
  have d : decide (40 < (k.p.l.length : Int)) = true := by simp; omega
  have d' : decide (40 < k.p.l.length) = true := by simp; omega
  clear hl
  have p7 : ∀ h : 7 < k.cs.length, k.cs[7] = .slice k.sp k.p.l.length k.cap := fun _ => rfl
  have p10 : ∀ h : 10 < k.cs.length, k.cs[10] = .int .i64 k.cuts := fun _ => rfl
  have hl : k.cs.length = 17 := rfl
  go_enter Tryz.func7, Tryz.ntmps7
  go_wp2_with fail
  refine (awake_any _).mono ?_
  rintro e wz ⟨rfl, hbz⟩
  go_wp2
  exact bodyPost_ret (v := .bool true) (by simp [results, Tryz.results7, go_sem]) rfl ⟨rfl, Gr.tr (Gr.alloc _ _) hbz⟩
set_option maxRecDepth 100000 in
set_option maxHeartbeats 2000000 in
theorem lwhy_none (k : Cd) (sa : Option Addr) (cap : Nat) (w : World) (hl : k.p.l.length ≤ 40) :
    Calls Tryz.prog 7 #[.agg k.cs.toArray, .slice sa 0 cap] w fun e w' => e = .returned (.bool true) ∧ Below w.heap.size w w' := by
  have d : decide (40 < (k.p.l.length : Int)) = false := by simp; omega
  have d' : decide (40 < k.p.l.length) = false := by simp; omega
  clear hl
  have p7 : ∀ h : 7 < k.cs.length, k.cs[7] = .slice k.sp k.p.l.length k.cap := fun _ => rfl
  have p10 : ∀ h : 10 < k.cs.length, k.cs[10] = .int .i64 k.cuts := fun _ => rfl
  have hl : k.cs.length = 17 := rfl
  go_enter Tryz.func7, Tryz.ntmps7
  go_wp2_with fail
  refine (awake_any _).mono ?_
  rintro e wz ⟨rfl, hbz⟩
  go_wp2
  exact bodyPost_ret (v := .bool true) (by simp [results, Tryz.results7, go_sem]) rfl ⟨rfl, Gr.tr (Gr.alloc _ _) hbz⟩
set_option maxRecDepth 100000 in
set_option maxHeartbeats 2000000 in
theorem lwhy_card (k : Cd) (sa : Option Addr) (len cap : Nat) (hy : 0 < len) (w : World) (hl : k.p.l.length ≤ 40) (hT : ThingsAt k.p.l (.slice k.sp k.p.l.length k.cap) w) (hc : Hid ((k.okc && k.p.ok) = false)) :
    Calls Tryz.prog 7 #[.agg k.cs.toArray, .slice sa len cap] w fun e w' => e = .returned (.bool true) ∧ Below w.heap.size w w' := by
  have d : decide (40 < (k.p.l.length : Int)) = false := by simp; omega
  have d' : decide (40 < k.p.l.length) = false := by simp; omega
  have x1 : ((len : Int) == 0) = false := by simp; omega
  have x2 : (len == 0) = false := by simp; omega
  have HT := Lib.hid hT
  clear hl hT
  have p7 : ∀ h : 7 < k.cs.length, k.cs[7] = .slice k.sp k.p.l.length k.cap := fun _ => rfl
  have p10 : ∀ h : 10 < k.cs.length, k.cs[10] = .int .i64 k.cuts := fun _ => rfl
  have hl : k.cs.length = 17 := rfl
  have HB := Lib.hid (Box.fresh w k.cs 28)
  go_enter Tryz.func7, Tryz.ntmps7
  go_wp2_with (first | (with_reducible refine wpList_stopLoad (ty := 28) rfl ?_; unfold Stop; first | refine wpList_loadBox row28 rfl (HB.out) rfl rfl rfl ?_ | refine wpList_loadPartW row28 rfl (HB.out) (Cd.wholeW k) rfl rfl rfl ?_))
  refine (card_is (b := false) hc.out (ThingsAt.lasts _ _ _ _ HT.out (Gr.alloc _ _))).mono ?_
  rintro e w1 ⟨rfl, hb1⟩
  go_wp2_with fail
  refine (awake_any _).mono ?_
  rintro e wz ⟨rfl, hbz⟩
  go_wp2
  exact bodyPost_ret (v := .bool true) (by simp [results, Tryz.results7, go_sem]) rfl ⟨rfl, Gr.tr ((Gr.alloc _ _).tr hb1) hbz⟩
set_option maxRecDepth 100000 in
set_option maxHeartbeats 2000000 in
theorem lwhy_cuts (k : Cd) (sa : Option Addr) (len cap : Nat) (hy : 0 < len) (w : World) (hl : k.p.l.length ≤ 40) (hT : ThingsAt k.p.l (.slice k.sp k.p.l.length k.cap) w) (hc : Hid ((k.okc && k.p.ok) = true)) (hn : 20 < k.cuts) :
    Calls Tryz.prog 7 #[.agg k.cs.toArray, .slice sa len cap] w fun e w' => e = .returned (.bool true) ∧ Below w.heap.size w w' := by
  have d : decide (40 < (k.p.l.length : Int)) = false := by simp; omega
  have d' : decide (40 < k.p.l.length) = false := by simp; omega
  have x1 : ((len : Int) == 0) = false := by simp; omega
  have x2 : (len == 0) = false := by simp; omega
  have y1 : decide (20 < k.cuts) = true := by simpa using hn
  have HT := Lib.hid hT
  clear hl hT
  have p7 : ∀ h : 7 < k.cs.length, k.cs[7] = .slice k.sp k.p.l.length k.cap := fun _ => rfl
  have p10 : ∀ h : 10 < k.cs.length, k.cs[10] = .int .i64 k.cuts := fun _ => rfl
  have hl : k.cs.length = 17 := rfl
  have HB := Lib.hid (Box.fresh w k.cs 28)
  go_enter Tryz.func7, Tryz.ntmps7
  go_wp2_with (first | (with_reducible refine wpList_stopLoad (ty := 28) rfl ?_; unfold Stop; first | refine wpList_loadBox row28 rfl (HB.out) rfl rfl rfl ?_ | refine wpList_loadPartW row28 rfl (HB.out) (Cd.wholeW k) rfl rfl rfl ?_))
  refine (card_is (b := true) hc.out (ThingsAt.lasts _ _ _ _ HT.out (Gr.alloc _ _))).mono ?_
  rintro e w1 ⟨rfl, hb1⟩
  have hc10 := (HB.out.grow hb1).cell (i := 10) rfl
  have hcl := (HB.out.grow hb1).lt
  go_wp2_with fail
  refine (awake_any _).mono ?_
  rintro e wz ⟨rfl, hbz⟩
  go_wp2
  exact bodyPost_ret (v := .bool true) (by simp [results, Tryz.results7, go_sem]) rfl ⟨rfl, Gr.tr ((Gr.alloc _ _).tr hb1) hbz⟩
theorem isT_leW {u : Cu} {m : Int} (h : u.isT m = true) : (0 ≤ u.a ∧ u.a ≤ m) ∧ (0 ≤ u.b ∧ u.b ≤ m) ∧ (0 ≤ u.c ∧ u.c ≤ m) ∧ (0 ≤ u.d ∧ u.d ≤ m) ∧ u.a + u.b = u.c + u.d := by
  unfold Cu.isT at h
  simp only [Bool.and_eq_true, decide_eq_true_eq] at h
  omega
theorem ByIn.growW {b o len : Nat} {w W : World} (h : ByIn b o len w) (hg : Gr w W) : ByIn b o len W := by
  obtain ⟨r1, r2, r3, r4⟩ := h
  exact ⟨r1, r2, Nat.lt_of_lt_of_le r3 hg.size, fun i hi => by
    obtain ⟨x, hx, hx'⟩ := r4 i hi
    exact ⟨x, (hg.cell (p := ⟨b, o + i, none⟩) r3).trans hx, hx'⟩⟩
theorem stepb {k : Cd} (hk : k.okc = true) : (0 ≤ k.step ∧ k.step ≤ 100) ∧ (0 ≤ k.half ∧ k.half ≤ 4000) ∧ (1 ≤ k.elo ∧ k.elo ≤ 10000) ∧ (1 ≤ k.ehi ∧ k.ehi ≤ 10000) ∧ (0 ≤ k.prism ∧ k.prism ≤ 10000) ∧ (0 ≤ k.squeeze ∧ k.squeeze ≤ 10000) ∧ (0 ≤ k.front ∧ k.front ≤ 10000) ∧ (0 ≤ k.deep ∧ k.deep ≤ 10000) := by
  unfold Cd.okc at hk
  have h0 := List.all_eq_true.1 hk 0 (by simp)
  have h1 := List.all_eq_true.1 hk 1 (by simp)
  have h3 := List.all_eq_true.1 hk 3 (by simp)
  have h4 := List.all_eq_true.1 hk 4 (by simp)
  have h5 := List.all_eq_true.1 hk 5 (by simp)
  have h6 := List.all_eq_true.1 hk 6 (by simp)
  have h7 := List.all_eq_true.1 hk 7 (by simp)
  have h8 := List.all_eq_true.1 hk 8 (by simp)
  have h9 := List.all_eq_true.1 hk 9 (by simp)
  simp [Cd.vd] at h0 h1 h3 h4 h5 h6 h7 h8 h9
  omega
theorem World.size_drew (w : World) : w.drew.heap.size = w.heap.size := rfl
theorem DrawOk.lt {A B b o len cap N : Nat} {w : World} (h : DrawOk A B b o len cap N w) : A < w.heap.size := by
  obtain ⟨m, hm, -⟩ := h.at_
  exact hm.lt
set_option maxRecDepth 100000 in
set_option maxHeartbeats 8000000 in
theorem lwhy_else (k : Cd) (b o len cap : Nat) (w : World) (hl : k.p.l.length ≤ 40) (hT : ThingsAt k.p.l (.slice k.sp k.p.l.length k.cap) w) (hy : ByIn b o len w) (hc : Hid ((k.okc && k.p.ok) = true)) (hn : k.cuts ≤ 20) (u : Cu) (e : Int) (he : (e == 0) = true ∨ ((e == 0) = false ∧ (e == 4) = true)) (he1 : (e != 11) = true) (hw : Hid (k.whyA = (0, 0, 0, e))) (ht : Hid (k.trimA = (u, e))) :
    Calls Tryz.prog 7 #[.agg k.cs.toArray, .slice (some ⟨b, o, none⟩) len cap] w fun e w' => e = .returned (.bool true) ∧ Below w.heap.size w w' := by
  have hee : (e != e) = false := by simp
  have d : decide (40 < (k.p.l.length : Int)) = false := by simp; omega
  have d' : decide (40 < k.p.l.length) = false := by simp; omega
  have x1 : ((len : Int) == 0) = false := by have := hy.1; simp; omega
  have x2 : (len == 0) = false := by have := hy.1; simp; omega
  have y1 : decide (20 < k.cuts) = false := by simpa using hn
  have HT := Lib.hid hT
  have HY := Lib.hid hy
  clear hl hT hy
  have p7 : ∀ h : 7 < k.cs.length, k.cs[7] = .slice k.sp k.p.l.length k.cap := fun _ => rfl
  have p10 : ∀ h : 10 < k.cs.length, k.cs[10] = .int .i64 k.cuts := fun _ => rfl
  have hl : k.cs.length = 17 := rfl
  have HB := Lib.hid (Box.fresh w k.cs 28)
  go_enter Tryz.func7, Tryz.ntmps7
  go_wp2_with (first | (with_reducible refine wpList_stopLoad (ty := 28) rfl ?_; unfold Stop; first | refine wpList_loadBox row28 rfl (HB.out) rfl rfl rfl ?_ | refine wpList_loadPartW row28 rfl (HB.out) (Cd.wholeW k) rfl rfl rfl ?_))
  refine (card_is (b := true) hc.out (ThingsAt.lasts _ _ _ _ HT.out (Gr.alloc _ _))).mono ?_
  rintro e w1 ⟨rfl, hb1⟩
  have HB1 := Lib.hid (HB.out.grow hb1)
  have hc10 := HB1.out.cell (i := 10) rfl
  have hcl := HB1.out.lt
  have HG1 := Lib.hid ((Gr.alloc w (Obj.cells k.cs.toArray 28)).tr hb1)
  clear hb1
  go_wp2_with (first | (with_reducible refine wpList_stopLoad (ty := 28) rfl ?_; unfold Stop; first | refine wpList_loadBox row28 rfl (HB1.out) rfl rfl rfl ?_ | refine wpList_loadPartW row28 rfl (HB1.out) (Cd.wholeW k) rfl rfl rfl ?_))
  refine (mwhy_is hw.out (ThingsAt.lasts _ _ _ _ HT.out HG1.out)).mono ?_
  rintro e w2 ⟨rfl, hb2⟩
  have HB2 := Lib.hid (HB1.out.grow hb2)
  have HG2 := Lib.hid (HG1.out.tr hb2)
  clear hb2 hc10 hcl
  go_wp2_with (first | (with_reducible refine wpList_stopLoad (ty := 28) rfl ?_; unfold Stop; first | refine wpList_loadBox row28 rfl (HB2.out) rfl rfl rfl ?_ | refine wpList_loadPartW row28 rfl (HB2.out) (Cd.wholeW k) rfl rfl rfl ?_))
  refine (mtrim_is ht.out (ThingsAt.lasts _ _ _ _ HT.out HG2.out)).mono ?_
  rintro e w3 ⟨rfl, hb3⟩
  have HB3 := Lib.hid ((HB2.out.grow hb3).grow (Gr.alloc w3 (Obj.cells #[.int .i64 u.a, .int .i64 u.b, .int .i64 u.c, .int .i64 u.d] 30)))
  have HG3 := Lib.hid ((HG2.out.tr hb3).tr (Gr.alloc w3 (Obj.cells #[.int .i64 u.a, .int .i64 u.b, .int .i64 u.c, .int .i64 u.d] 30)))
  clear hb3
  have c7 := HB3.out.cell (i := 7) rfl
  have ccl := HB3.out.lt
  rcases he with he | ⟨he0, he⟩
  all_goals
    go_wp2_with fail
    refine (awake_any _).mono ?_
    rintro e wz ⟨rfl, hbz⟩
    go_wp2
    exact bodyPost_ret (v := .bool true) (by simp [results, Tryz.results7, go_sem]) rfl ⟨rfl, Gr.tr HG3.out hbz⟩
set_option maxRecDepth 100000 in
set_option maxHeartbeats 8000000 in
theorem lwhy_cut (k : Cd) (b o len cap : Nat) (w : World) (hl : k.p.l.length ≤ 40) (hT : ThingsAt k.p.l (.slice k.sp k.p.l.length k.cap) w) (hy : ByIn b o len w) (hc : Hid ((k.okc && k.p.ok) = true)) (hn : k.cuts ≤ 20) (hw : Hid (k.whyA = (3, 0, 0, 11))) (ht : Hid (k.trimA = (⟨0, 0, 0, 0⟩, 11))) :
    Calls Tryz.prog 7 #[.agg k.cs.toArray, .slice (some ⟨b, o, none⟩) len cap] w fun e w' => e = .returned (.bool true) ∧ Below w.heap.size w w' := by
  have d : decide (40 < (k.p.l.length : Int)) = false := by simp; omega
  have d' : decide (40 < k.p.l.length) = false := by simp; omega
  have x1 : ((len : Int) == 0) = false := by have := hy.1; simp; omega
  have x2 : (len == 0) = false := by have := hy.1; simp; omega
  have y1 : decide (20 < k.cuts) = false := by simpa using hn
  have HT := Lib.hid hT
  have HY := Lib.hid hy
  clear hl hT hy
  have p7 : ∀ h : 7 < k.cs.length, k.cs[7] = .slice k.sp k.p.l.length k.cap := fun _ => rfl
  have p10 : ∀ h : 10 < k.cs.length, k.cs[10] = .int .i64 k.cuts := fun _ => rfl
  have hl : k.cs.length = 17 := rfl
  have HB := Lib.hid (Box.fresh w k.cs 28)
  go_enter Tryz.func7, Tryz.ntmps7
  go_wp2_with (first | (with_reducible refine wpList_stopLoad (ty := 28) rfl ?_; unfold Stop; first | refine wpList_loadBox row28 rfl (HB.out) rfl rfl rfl ?_ | refine wpList_loadPartW row28 rfl (HB.out) (Cd.wholeW k) rfl rfl rfl ?_))
  refine (card_is (b := true) hc.out (ThingsAt.lasts _ _ _ _ HT.out (Gr.alloc _ _))).mono ?_
  rintro e w1 ⟨rfl, hb1⟩
  have HB1 := Lib.hid (HB.out.grow hb1)
  have hc10 := HB1.out.cell (i := 10) rfl
  have hcl := HB1.out.lt
  have HG1 := Lib.hid ((Gr.alloc w (Obj.cells k.cs.toArray 28)).tr hb1)
  clear hb1
  go_wp2_with (first | (with_reducible refine wpList_stopLoad (ty := 28) rfl ?_; unfold Stop; first | refine wpList_loadBox row28 rfl (HB1.out) rfl rfl rfl ?_ | refine wpList_loadPartW row28 rfl (HB1.out) (Cd.wholeW k) rfl rfl rfl ?_))
  refine (mwhy_is hw.out (ThingsAt.lasts _ _ _ _ HT.out HG1.out)).mono ?_
  rintro e w2 ⟨rfl, hb2⟩
  have HB2 := Lib.hid (HB1.out.grow hb2)
  have HG2 := Lib.hid (HG1.out.tr hb2)
  clear hb2 hc10 hcl
  go_wp2_with (first | (with_reducible refine wpList_stopLoad (ty := 28) rfl ?_; unfold Stop; first | refine wpList_loadBox row28 rfl (HB2.out) rfl rfl rfl ?_ | refine wpList_loadPartW row28 rfl (HB2.out) (Cd.wholeW k) rfl rfl rfl ?_))
  refine (mtrim_is ht.out (ThingsAt.lasts _ _ _ _ HT.out HG2.out)).mono ?_
  rintro e w3 ⟨rfl, hb3⟩
  have HB3 := Lib.hid ((HB2.out.grow hb3).grow (Gr.alloc w3 (Obj.cells #[.int .i64 0, .int .i64 0, .int .i64 0, .int .i64 0] 30)))
  have HG3 := Lib.hid ((HG2.out.tr hb3).tr (Gr.alloc w3 (Obj.cells #[.int .i64 0, .int .i64 0, .int .i64 0, .int .i64 0] 30)))
  clear hb3
  have c7 := HB3.out.cell (i := 7) rfl
  have ccl := HB3.out.lt
  go_wp2_with fail
  refine (awake_any _).mono ?_
  rintro e wz ⟨rfl, hbz⟩
  go_wp2
  exact bodyPost_ret (v := .bool true) (by simp [results, Tryz.results7, go_sem]) rfl ⟨rfl, Gr.tr HG3.out hbz⟩
end Go.Proofs.YtcngaohfemdfjaaGreat
