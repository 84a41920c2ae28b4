import Derived.Test.YtcngaohfemdfjaaGreatY34
import Derived.Test.YtcngaohfemdfjaaGreatY33
import Derived.Test.YtcngaohfemdfjaaGreatX56
import Derived.Test.YtcngaohfemdfjaaGreatXg
import Derived.RegionTactic
import Derived.Deep.CutBlock
import Derived.Deep.DeepCutAuto
import Derived.Deep.AppendLies
import Derived.OwnWalk
set_option linter.unusedVariables false
set_option linter.unusedSimpArgs false
namespace Go.Proofs.YtcngaohfemdfjaaGreat
open Go.RowKit
set_option maxHeartbeats 600000 in
theorem mback_any (lo hi : Int) (w : World) (h0 : -4000 ≤ lo) (h1 : lo ≤ 4000) (h2 : -4000 ≤ hi) (h3 : hi ≤ 4000) :
    Calls Tryz.prog 41 #[.agg #[.int .i64 lo, .int .i64 hi]] w fun e w' => e = .returned (.agg #[.int .i64 (-hi), .int .i64 (-lo)]) ∧ Below w.heap.size w w' := by
  go_enter Tryz.func41, Tryz.ntmps41
  go_wp2_with fail
  refine (lspan_any _ _ _).mono ?_
  rintro e w1 ⟨rfl, hb1⟩
  have hg1 : Gr _ _ := hb1
  obtain ⟨hc, hf, hz⟩ := bcell hg1
  go_wp2
  exact bodyPost_ret (v := .agg #[.int .i64 (-hi), .int .i64 (-lo)]) (by simp [results, Tryz.results41, go_sem, hc]) rfl ⟨rfl, ((show Below w.heap.size w w1 from ((Gr.alloc _ _).tr (Gr.alloc _ _)).tr hg1).setCell (by first | (simp; done) | (simp; omega) | omega) _).setCell (by first | (simp; done) | (simp; omega) | omega) _⟩
set_option maxRecDepth 100000 in
set_option maxHeartbeats 2000000 in
theorem mturned_many (k : Cd) (u : Cu) (w : World) (hl : 40 < k.p.l.length) :
    Calls Tryz.prog 11 #[.agg k.cs.toArray, u.val] w fun e w' => e = .returned (.bool true) ∧ Below w.heap.size w w' := by
  have d : decide (40 < (k.p.l.length : Int)) = true := by simp; omega
  have d' : decide (40 < k.p.l.length) = true := by simp; omega
  clear hl
  have p7 : ∀ h : 7 < k.cs.length, k.cs[7] = .slice k.sp k.p.l.length k.cap := fun _ => rfl
  have p10 : ∀ h : 10 < k.cs.length, k.cs[10] = .int .i64 k.cuts := fun _ => rfl
  have hl : k.cs.length = 17 := rfl
  unfold Cu.val
  go_enter Tryz.func11, Tryz.ntmps11
  go_wp2_with fail
  refine (awake_any _).mono ?_
  rintro e wz ⟨rfl, hbz⟩
  go_wp2
  exact bodyPost_ret (v := .bool true) (by simp [results, Tryz.results11, go_sem]) rfl ⟨rfl, Gr.tr ((Gr.alloc _ _).tr (Gr.alloc _ _)) hbz⟩
set_option maxRecDepth 100000 in
set_option maxHeartbeats 2000000 in
theorem mturned_card (k : Cd) (u : Cu) (w : World) (hl : k.p.l.length ≤ 40) (hT : ThingsAt k.p.l (.slice k.sp k.p.l.length k.cap) w) (hc : Hid ((k.okc && k.p.ok) = false)) :
    Calls Tryz.prog 11 #[.agg k.cs.toArray, u.val] w fun e w' => e = .returned (.bool true) ∧ Below w.heap.size w w' := by
  have d : decide (40 < (k.p.l.length : Int)) = false := by simp; omega
  have d' : decide (40 < k.p.l.length) = false := by simp; omega
  have HT := Lib.hid hT
  clear hl hT
  have p7 : ∀ h : 7 < k.cs.length, k.cs[7] = .slice k.sp k.p.l.length k.cap := fun _ => rfl
  have p10 : ∀ h : 10 < k.cs.length, k.cs[10] = .int .i64 k.cuts := fun _ => rfl
  have hl : k.cs.length = 17 := rfl
  have HB := Lib.hid (show Box ((w.alloc (Obj.cells k.cs.toArray 28)).alloc (Obj.cells #[.int .i64 u.a, .int .i64 u.b, .int .i64 u.c, .int .i64 u.d] 30)) w.heap.size k.cs 28 from (Box.fresh w k.cs 28).grow (Gr.alloc _ _))
  have HU := Lib.hid (show Box ((w.alloc (Obj.cells k.cs.toArray 28)).alloc (Obj.cells #[.int .i64 u.a, .int .i64 u.b, .int .i64 u.c, .int .i64 u.d] 30)) (w.heap.size + 1) [.int .i64 u.a, .int .i64 u.b, .int .i64 u.c, .int .i64 u.d] 30 by simpa using Box.fresh (w.alloc (Obj.cells k.cs.toArray 28)) [.int .i64 u.a, .int .i64 u.b, .int .i64 u.c, .int .i64 u.d] 30)
  have HG0 := Lib.hid (show Gr w ((w.alloc (Obj.cells k.cs.toArray 28)).alloc (Obj.cells #[.int .i64 u.a, .int .i64 u.b, .int .i64 u.c, .int .i64 u.d] 30)) from (Gr.alloc _ _).tr (Gr.alloc _ _))
  unfold Cu.val
  go_enter Tryz.func11, Tryz.ntmps11
  go_wp2_with (first | (with_reducible refine wpList_stopLoad (ty := 28) rfl ?_; unfold Stop; first | refine wpList_loadBox row28 rfl (HB.out) rfl rfl rfl ?_ | refine wpList_loadPartG row28 rfl (HB.out) (Cd.whole k) rfl rfl rfl ?_))
  refine (card_is (b := false) hc.out (ThingsAt.lasts _ _ _ _ HT.out HG0.out)).mono ?_
  rintro e w1 ⟨rfl, hb1⟩
  have HG1 := Lib.hid (HG0.out.tr hb1)
  have HB1 := Lib.hid (HB.out.grow hb1)
  have HU1 := Lib.hid (HU.out.grow hb1)
  clear hb1
  go_wp2_with fail
  refine (awake_any _).mono ?_
  rintro e wz ⟨rfl, hbz⟩
  go_wp2
  exact bodyPost_ret (v := .bool true) (by simp [results, Tryz.results11, go_sem]) rfl ⟨rfl, Gr.tr HG1.out hbz⟩
set_option maxRecDepth 100000 in
set_option maxHeartbeats 2000000 in
theorem mturned_cuts (k : Cd) (u : Cu) (w : World) (hl : k.p.l.length ≤ 40) (hT : ThingsAt k.p.l (.slice k.sp k.p.l.length k.cap) w) (hc : Hid ((k.okc && k.p.ok) = true)) (hn : 20 < k.cuts) :
    Calls Tryz.prog 11 #[.agg k.cs.toArray, u.val] w fun e w' => e = .returned (.bool true) ∧ Below w.heap.size w w' := by
  have d : decide (40 < (k.p.l.length : Int)) = false := by simp; omega
  have d' : decide (40 < k.p.l.length) = false := by simp; omega
  have y1 : decide (20 < k.cuts) = true := by simpa using hn
  have HT := Lib.hid hT
  clear hl hT
  have p7 : ∀ h : 7 < k.cs.length, k.cs[7] = .slice k.sp k.p.l.length k.cap := fun _ => rfl
  have p10 : ∀ h : 10 < k.cs.length, k.cs[10] = .int .i64 k.cuts := fun _ => rfl
  have hl : k.cs.length = 17 := rfl
  have HB := Lib.hid (show Box ((w.alloc (Obj.cells k.cs.toArray 28)).alloc (Obj.cells #[.int .i64 u.a, .int .i64 u.b, .int .i64 u.c, .int .i64 u.d] 30)) w.heap.size k.cs 28 from (Box.fresh w k.cs 28).grow (Gr.alloc _ _))
  have HU := Lib.hid (show Box ((w.alloc (Obj.cells k.cs.toArray 28)).alloc (Obj.cells #[.int .i64 u.a, .int .i64 u.b, .int .i64 u.c, .int .i64 u.d] 30)) (w.heap.size + 1) [.int .i64 u.a, .int .i64 u.b, .int .i64 u.c, .int .i64 u.d] 30 by simpa using Box.fresh (w.alloc (Obj.cells k.cs.toArray 28)) [.int .i64 u.a, .int .i64 u.b, .int .i64 u.c, .int .i64 u.d] 30)
  have HG0 := Lib.hid (show Gr w ((w.alloc (Obj.cells k.cs.toArray 28)).alloc (Obj.cells #[.int .i64 u.a, .int .i64 u.b, .int .i64 u.c, .int .i64 u.d] 30)) from (Gr.alloc _ _).tr (Gr.alloc _ _))
  unfold Cu.val
  go_enter Tryz.func11, Tryz.ntmps11
  go_wp2_with (first | (with_reducible refine wpList_stopLoad (ty := 28) rfl ?_; unfold Stop; first | refine wpList_loadBox row28 rfl (HB.out) rfl rfl rfl ?_ | refine wpList_loadPartG row28 rfl (HB.out) (Cd.whole k) rfl rfl rfl ?_))
  refine (card_is (b := true) hc.out (ThingsAt.lasts _ _ _ _ HT.out HG0.out)).mono ?_
  rintro e w1 ⟨rfl, hb1⟩
  have HG1 := Lib.hid (HG0.out.tr hb1)
  have HB1 := Lib.hid (HB.out.grow hb1)
  have HU1 := Lib.hid (HU.out.grow hb1)
  clear hb1
  have c10 := HB1.out.cell (i := 10) rfl
  have ccl := HB1.out.lt
  go_wp2_with fail
  refine (awake_any _).mono ?_
  rintro e wz ⟨rfl, hbz⟩
  go_wp2
  exact bodyPost_ret (v := .bool true) (by simp [results, Tryz.results11, go_sem]) rfl ⟨rfl, Gr.tr HG1.out hbz⟩
theorem isT_leM2 {u : Cu} {m : Int} (h : u.isT m = true) : (0 ≤ u.a ∧ u.a ≤ m) ∧ (0 ≤ u.b ∧ u.b ≤ m) ∧ (0 ≤ u.c ∧ u.c ≤ m) ∧ (0 ≤ u.d ∧ u.d ≤ m) ∧ u.a + u.b = u.c + u.d := by
  unfold Cu.isT at h
  simp only [Bool.and_eq_true, decide_eq_true_eq] at h
  omega
theorem eq23 (a b c d : Int) (w : World) : (binOp .eql 23 (.agg #[.int .i64 a, .int .i64 b]) (.agg #[.int .i64 c, .int .i64 d])).run Tryz.prog w = .ok (.bool (a == c && b == d)) w := by
  have hS : Tryz.prog.underlying 23 = some (.struct (Tryz.prog.fieldsOf 23)) := by kernel_rfl
  rw [run_eql_struct, run_equalIn_agg _ _ _ _ _ hS (by kernel_rfl)]
  simp only [Program.fieldsOf, Tryz.underlying23]
  simp [Op.eqFields, go_sem]
  by_cases h1 : a = c <;> by_cases h2 : b = d <;> simp [h1, h2]
theorem eqg23 (x y : Operand) (xs ys : Array Value) (w : World) : (eqGuard .eql 23 x y (.agg xs) (.agg ys)).run Tryz.prog w = .ok () w := run_eqGuard_agg w _ _ _ _ _ _ (by kernel_rfl)
end Go.Proofs.YtcngaohfemdfjaaGreat
