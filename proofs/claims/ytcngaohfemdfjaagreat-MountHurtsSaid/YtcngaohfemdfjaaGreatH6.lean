import Derived.Test.YtcngaohfemdfjaaGreatH4
import Derived.Test.YtcngaohfemdfjaaGreatH5
set_option linter.unusedVariables false
set_option linter.unusedSimpArgs false
set_option maxRecDepth 100000
set_option maxHeartbeats 60000000
namespace Go.Proofs.YtcngaohfemdfjaaGreat
open Go.RowKit
theorem eq23h (a b c d : Int) (w : World) : (binOp .eql 23 (.agg #[.int .i64 a, .int .i64 b]) (.agg #[.int .i64 c, .int .i64 d])).run Tryz.prog w = .ok (.bool (a == c && b == d)) w := by
  have hS : Tryz.prog.underlying 23 = some (.struct (Tryz.prog.fieldsOf 23)) := by kernel_rfl
  rw [run_eql_struct, run_equalIn_agg _ _ _ _ _ hS (by kernel_rfl)]
  simp only [Program.fieldsOf, Tryz.underlying23]
  simp [Op.eqFields, go_sem]
  by_cases h1 : a = c <;> by_cases h2 : b = d <;> simp [h1, h2]
theorem eqg23h (x y : Operand) (xs ys : Array Value) (w : World) : (eqGuard .eql 23 x y (.agg xs) (.agg ys)).run Tryz.prog w = .ok () w := run_eqGuard_agg w _ _ _ _ _ _ (by kernel_rfl)
theorem rseen_is {k : Cd} {x e : Int} {w : World} (h : k.seenA = (x, e)) (hT : TsA k.p.l (.slice k.sp k.p.l.length k.cap) w) :
    Calls Tryz.prog 15 #[.agg k.cs.toArray] w fun e' w' => e' = .returned (.tuple #[.int .i64 x, .int .i64 e]) ∧ Below w.heap.size w w' := by
  have := rseen_any k w hT
  rw [h] at this
  exact this
theorem mhurts_many (k : Cd) (u : Cu) (w : World) (hl : 40 < k.p.l.length) :
    Calls Tryz.prog 3 #[.agg k.cs.toArray, u.val] w fun e w' => e = .returned (.bool true) ∧ Below w.heap.size w w' := by
  have d : decide (40 < (k.p.l.length : Int)) = true := by simp; omega
  have d' : decide (40 < k.p.l.length) = true := by simp; omega
  clear hl
  have p7 : ∀ h : 7 < k.cs.length, k.cs[7] = .slice k.sp k.p.l.length k.cap := fun _ => rfl
  have p10 : ∀ h : 10 < k.cs.length, k.cs[10] = .int .i64 k.cuts := fun _ => rfl
  have hl : k.cs.length = 17 := rfl
  unfold Cu.val
  go_enter Tryz.func3, Tryz.ntmps3
  go_wp2_with fail
  refine (awake_any _).mono ?_
  rintro e wz ⟨rfl, hbz⟩
  go_wp2
  exact bodyPost_ret (v := .bool true) (by simp [results, Tryz.results3, go_sem]) rfl ⟨rfl, Gr.tr ((Gr.alloc _ _).tr (Gr.alloc _ _)) hbz⟩
theorem mhurts_main (k : Cd) (u : Cu) (w : World) (hl : k.p.l.length ≤ 40) (hT : TsA k.p.l (.slice k.sp k.p.l.length k.cap) w) :
    Calls Tryz.prog 3 #[.agg k.cs.toArray, u.val] w fun e w' => e = .returned (.bool true) ∧ Below w.heap.size w w' := by
  have d : decide (40 < (k.p.l.length : Int)) = false := by simp; omega
  have d' : decide (40 < k.p.l.length) = false := by simp; omega
  have HT := Lib.hid hT
  obtain ⟨s1, se, A1⟩ : ∃ s e, k.seenA = (s, e) := ⟨_, _, rfl⟩
  obtain ⟨n1, n2, ne, A2⟩ : ∃ a b e, k.hurtsA u = (a, b, e) := ⟨_, _, _, rfl⟩
  obtain ⟨y1, y2, ye, A3⟩ : ∃ a b e, k.eyesA u = (a, b, e) := ⟨_, _, _, rfl⟩
  obtain ⟨r1, r2, re, A4⟩ : ∃ a b e, k.roomA u = (a, b, e) := ⟨_, _, _, rfl⟩
  obtain ⟨d1, d2, de, A5⟩ : ∃ a b e, k.deepA u = (a, b, e) := ⟨_, _, _, rfl⟩
  have A1 := Lib.hid A1
  have A2 := Lib.hid A2
  have A3 := Lib.hid A3
  have A4 := Lib.hid A4
  have A5 := Lib.hid A5
  have heq := @eq23h
  have heg := @eqg23h
  clear hl hT
  have p7 : ∀ h : 7 < k.cs.length, k.cs[7] = .slice k.sp k.p.l.length k.cap := fun _ => rfl
  have p10 : ∀ h : 10 < k.cs.length, k.cs[10] = .int .i64 k.cuts := fun _ => rfl
  have hl : k.cs.length = 17 := rfl
  have HB0 := Lib.hid (show Box ((w.alloc (Obj.cells k.cs.toArray 28)).alloc (Obj.cells #[.int .i64 u.a, .int .i64 u.b, .int .i64 u.c, .int .i64 u.d] 30)) w.heap.size k.cs 28 from (Box.fresh w k.cs 28).grow (Gr.alloc _ _))
  have HU0 := Lib.hid (show Box ((w.alloc (Obj.cells k.cs.toArray 28)).alloc (Obj.cells #[.int .i64 u.a, .int .i64 u.b, .int .i64 u.c, .int .i64 u.d] 30)) (w.heap.size + 1) [.int .i64 u.a, .int .i64 u.b, .int .i64 u.c, .int .i64 u.d] 30 by simpa using Box.fresh (w.alloc (Obj.cells k.cs.toArray 28)) [.int .i64 u.a, .int .i64 u.b, .int .i64 u.c, .int .i64 u.d] 30)
  have HG0 := Lib.hid (show Gr w ((w.alloc (Obj.cells k.cs.toArray 28)).alloc (Obj.cells #[.int .i64 u.a, .int .i64 u.b, .int .i64 u.c, .int .i64 u.d] 30)) from (Gr.alloc _ _).tr (Gr.alloc _ _))
  unfold Cu.val
  go_enter Tryz.func3, Tryz.ntmps3
  go_wp2_with (first | (with_reducible refine wsl (ty := 28) rfl ?_; unfold Stop; first | refine wlb row28 rfl (HB0.out) rfl rfl rfl ?_ | refine wlg row28 rfl (HB0.out) (Cd.whole k) rfl rfl rfl ?_))
  refine (seen_is A1.out (TsA.lasts _ _ _ _ HT.out HG0.out)).mono ?_
  rintro e w1 ⟨rfl, hb⟩
  have hga : Gr _ w1 := hb
  have HG1 := Lib.hid (HG0.out.tr hga)
  have HB1 := Lib.hid (HB0.out.grow hga)
  have HU1 := Lib.hid (HU0.out.grow hga)
  clear hb hga HB0 HU0 HG0
  go_wp2_with (first | (with_reducible refine wsl (ty := 28) rfl ?_; unfold Stop; first | refine wlb row28 rfl (HB1.out) rfl rfl rfl ?_ | refine wlg row28 rfl (HB1.out) (Cd.whole k) rfl rfl rfl ?_))
  refine (rseen_is A1.out (TsA.lasts _ _ _ _ HT.out HG1.out)).mono ?_
  rintro e w2 ⟨rfl, hb⟩
  have hga : Gr _ w2 := hb
  have HG2 := Lib.hid (HG1.out.tr hga)
  have HB2 := Lib.hid (HB1.out.grow hga)
  have HU2 := Lib.hid (HU1.out.grow hga)
  clear hb hga HB1 HU1 HG1
  have u0 := HU2.out.cell (i := 0) rfl
  have u1 := HU2.out.cell (i := 1) rfl
  have u2 := HU2.out.cell (i := 2) rfl
  have u3 := HU2.out.cell (i := 3) rfl
  have ul := HU2.out.lt
  go_wp2_with (first | (with_reducible refine wsl (ty := 28) rfl ?_; unfold Stop; first | refine wlb row28 rfl (HB2.out) rfl rfl rfl ?_ | refine wlg row28 rfl (HB2.out) (Cd.whole k) rfl rfl rfl ?_))
  refine (hurts_is A2.out (TsA.lasts _ _ _ _ HT.out HG2.out)).mono ?_
  rintro e w3 ⟨rfl, hb⟩
  clear u0 u1 u2 u3 ul
  have hga : Gr _ w3 := hb
  have HG3 := Lib.hid (HG2.out.tr hga)
  have HB3 := Lib.hid (HB2.out.grow hga)
  have HU3 := Lib.hid (HU2.out.grow hga)
  clear hb hga HB2 HU2 HG2
  have u0 := HU3.out.cell (i := 0) rfl
  have u1 := HU3.out.cell (i := 1) rfl
  have u2 := HU3.out.cell (i := 2) rfl
  have u3 := HU3.out.cell (i := 3) rfl
  have ul := HU3.out.lt
  go_wp2_with (first | (with_reducible refine wsl (ty := 28) rfl ?_; unfold Stop; first | refine wlb row28 rfl (HB3.out) rfl rfl rfl ?_ | refine wlg row28 rfl (HB3.out) (Cd.whole k) rfl rfl rfl ?_))
  refine (rhurts_any _ _ _ (TsA.lasts _ _ _ _ HT.out HG3.out) A2.out).mono ?_
  rintro e w4 ⟨rfl, hb⟩
  clear u0 u1 u2 u3 ul
  have hga : Gr _ w4 := hb
  have HG4 := Lib.hid (HG3.out.tr hga)
  have HB4 := Lib.hid (HB3.out.grow hga)
  have HU4 := Lib.hid (HU3.out.grow hga)
  clear hb hga HB3 HU3 HG3
  have u0 := HU4.out.cell (i := 0) rfl
  have u1 := HU4.out.cell (i := 1) rfl
  have u2 := HU4.out.cell (i := 2) rfl
  have u3 := HU4.out.cell (i := 3) rfl
  have ul := HU4.out.lt
  go_wp2_with (first | (with_reducible refine wsl (ty := 28) rfl ?_; unfold Stop; first | refine wlb row28 rfl (HB4.out) rfl rfl rfl ?_ | refine wlg row28 rfl (HB4.out) (Cd.whole k) rfl rfl rfl ?_))
  refine (eyes_is A3.out (TsA.lasts _ _ _ _ HT.out HG4.out)).mono ?_
  rintro e w5 ⟨rfl, hb⟩
  clear u0 u1 u2 u3 ul
  have hga := Gr.tr hb (Gr.alloc w5 (Obj.cells #[.int .i64 y1, .int .i64 y2] 23))
  have HG5 := Lib.hid (HG4.out.tr hga)
  have HB5 := Lib.hid (HB4.out.grow hga)
  have HU5 := Lib.hid (HU4.out.grow hga)
  have HSb4_5 := Lib.hid (Box.fresh w5 [.int .i64 y1, .int .i64 y2] 23)
  clear hb hga HB4 HU4 HG4
  have u0 := HU5.out.cell (i := 0) rfl
  have u1 := HU5.out.cell (i := 1) rfl
  have u2 := HU5.out.cell (i := 2) rfl
  have u3 := HU5.out.cell (i := 3) rfl
  have ul := HU5.out.lt
  go_wp2_with (first | (with_reducible refine wsl (ty := 28) rfl ?_; unfold Stop; first | refine wlb row28 rfl (HB5.out) rfl rfl rfl ?_ | refine wlg row28 rfl (HB5.out) (Cd.whole k) rfl rfl rfl ?_))
  refine (reyes_any _ _ _ (TsA.lasts _ _ _ _ HT.out HG5.out) A3.out).mono ?_
  rintro e w6 ⟨rfl, hb⟩
  clear u0 u1 u2 u3 ul
  have hga := Gr.tr hb (Gr.alloc w6 (Obj.cells #[.int .i64 y1, .int .i64 y2] 23))
  have HG6 := Lib.hid (HG5.out.tr hga)
  have HB6 := Lib.hid (HB5.out.grow hga)
  have HU6 := Lib.hid (HU5.out.grow hga)
  have HSb4_6 := Lib.hid (HSb4_5.out.grow hga)
  have HSb5_6 := Lib.hid (Box.fresh w6 [.int .i64 y1, .int .i64 y2] 23)
  clear hb hga HB5 HU5 HG5 HSb4_5
  have u0 := HU6.out.cell (i := 0) rfl
  have u1 := HU6.out.cell (i := 1) rfl
  have u2 := HU6.out.cell (i := 2) rfl
  have u3 := HU6.out.cell (i := 3) rfl
  have ul := HU6.out.lt
  go_wp2_with (first | (with_reducible refine wsl (ty := 28) rfl ?_; unfold Stop; first | refine wlb row28 rfl (HB6.out) rfl rfl rfl ?_ | refine wlg row28 rfl (HB6.out) (Cd.whole k) rfl rfl rfl ?_))
  refine (mroom_is A4.out (TsA.lasts _ _ _ _ HT.out HG6.out)).mono ?_
  rintro e w7 ⟨rfl, hb⟩
  clear u0 u1 u2 u3 ul
  have hga := Gr.tr hb (Gr.alloc w7 (Obj.cells #[.int .i64 r1, .int .i64 r2] 23))
  have HG7 := Lib.hid (HG6.out.tr hga)
  have HB7 := Lib.hid (HB6.out.grow hga)
  have HU7 := Lib.hid (HU6.out.grow hga)
  have HSb4_7 := Lib.hid (HSb4_6.out.grow hga)
  have HSb5_7 := Lib.hid (HSb5_6.out.grow hga)
  have HSb6_7 := Lib.hid (Box.fresh w7 [.int .i64 r1, .int .i64 r2] 23)
  clear hb hga HB6 HU6 HG6 HSb4_6 HSb5_6
  have u0 := HU7.out.cell (i := 0) rfl
  have u1 := HU7.out.cell (i := 1) rfl
  have u2 := HU7.out.cell (i := 2) rfl
  have u3 := HU7.out.cell (i := 3) rfl
  have ul := HU7.out.lt
  go_wp2_with (first | (with_reducible refine wsl (ty := 28) rfl ?_; unfold Stop; first | refine wlb row28 rfl (HB7.out) rfl rfl rfl ?_ | refine wlg row28 rfl (HB7.out) (Cd.whole k) rfl rfl rfl ?_))
  refine (rroom_any _ _ _ (TsA.lasts _ _ _ _ HT.out HG7.out) A4.out).mono ?_
  rintro e w8 ⟨rfl, hb⟩
  clear u0 u1 u2 u3 ul
  have hga := Gr.tr hb (Gr.alloc w8 (Obj.cells #[.int .i64 r1, .int .i64 r2] 23))
  have HG8 := Lib.hid (HG7.out.tr hga)
  have HB8 := Lib.hid (HB7.out.grow hga)
  have HU8 := Lib.hid (HU7.out.grow hga)
  have HSb4_8 := Lib.hid (HSb4_7.out.grow hga)
  have HSb5_8 := Lib.hid (HSb5_7.out.grow hga)
  have HSb6_8 := Lib.hid (HSb6_7.out.grow hga)
  have HSb7_8 := Lib.hid (Box.fresh w8 [.int .i64 r1, .int .i64 r2] 23)
  clear hb hga HB7 HU7 HG7 HSb4_7 HSb5_7 HSb6_7
  have u0 := HU8.out.cell (i := 0) rfl
  have u1 := HU8.out.cell (i := 1) rfl
  have u2 := HU8.out.cell (i := 2) rfl
  have u3 := HU8.out.cell (i := 3) rfl
  have ul := HU8.out.lt
  go_wp2_with (first | (with_reducible refine wsl (ty := 28) rfl ?_; unfold Stop; first | refine wlb row28 rfl (HB8.out) rfl rfl rfl ?_ | refine wlg row28 rfl (HB8.out) (Cd.whole k) rfl rfl rfl ?_))
  refine (mdeep_is A5.out (TsA.lasts _ _ _ _ HT.out HG8.out)).mono ?_
  rintro e w9 ⟨rfl, hb⟩
  clear u0 u1 u2 u3 ul
  have hga := Gr.tr hb (Gr.alloc w9 (Obj.cells #[.int .i64 d1, .int .i64 d2] 23))
  have HG9 := Lib.hid (HG8.out.tr hga)
  have HB9 := Lib.hid (HB8.out.grow hga)
  have HU9 := Lib.hid (HU8.out.grow hga)
  have HSb4_9 := Lib.hid (HSb4_8.out.grow hga)
  have HSb5_9 := Lib.hid (HSb5_8.out.grow hga)
  have HSb6_9 := Lib.hid (HSb6_8.out.grow hga)
  have HSb7_9 := Lib.hid (HSb7_8.out.grow hga)
  have HSb8_9 := Lib.hid (Box.fresh w9 [.int .i64 d1, .int .i64 d2] 23)
  clear hb hga HB8 HU8 HG8 HSb4_8 HSb5_8 HSb6_8 HSb7_8
  have u0 := HU9.out.cell (i := 0) rfl
  have u1 := HU9.out.cell (i := 1) rfl
  have u2 := HU9.out.cell (i := 2) rfl
  have u3 := HU9.out.cell (i := 3) rfl
  have ul := HU9.out.lt
  go_wp2_with (first | (with_reducible refine wsl (ty := 28) rfl ?_; unfold Stop; first | refine wlb row28 rfl (HB9.out) rfl rfl rfl ?_ | refine wlg row28 rfl (HB9.out) (Cd.whole k) rfl rfl rfl ?_))
  refine (rdepths_any _ _ _ (TsA.lasts _ _ _ _ HT.out HG9.out) A5.out).mono ?_
  rintro e w10 ⟨rfl, hb⟩
  clear u0 u1 u2 u3 ul
  have hga := Gr.tr hb (Gr.alloc w10 (Obj.cells #[.int .i64 d1, .int .i64 d2] 23))
  have HG10 := Lib.hid (HG9.out.tr hga)
  have HB10 := Lib.hid (HB9.out.grow hga)
  have HU10 := Lib.hid (HU9.out.grow hga)
  have HSb4_10 := Lib.hid (HSb4_9.out.grow hga)
  have HSb5_10 := Lib.hid (HSb5_9.out.grow hga)
  have HSb6_10 := Lib.hid (HSb6_9.out.grow hga)
  have HSb7_10 := Lib.hid (HSb7_9.out.grow hga)
  have HSb8_10 := Lib.hid (HSb8_9.out.grow hga)
  have HSb9_10 := Lib.hid (Box.fresh w10 [.int .i64 d1, .int .i64 d2] 23)
  clear hb hga HB9 HU9 HG9 HSb4_9 HSb5_9 HSb6_9 HSb7_9 HSb8_9
  go_upto_region 13 with fail
  generalize (w10.alloc (Obj.cells #[.int .i64 d1, .int .i64 d2] 23)) = VZ at *
  generalize w10.heap.size = bq at *
  have zb4_0 := HSb4_10.out.cell (i := 0) rfl
  have zb4_1 := HSb4_10.out.cell (i := 1) rfl
  have zb5_0 := HSb5_10.out.cell (i := 0) rfl
  have zb5_1 := HSb5_10.out.cell (i := 1) rfl
  have zb6_0 := HSb6_10.out.cell (i := 0) rfl
  have zb6_1 := HSb6_10.out.cell (i := 1) rfl
  have zb7_0 := HSb7_10.out.cell (i := 0) rfl
  have zb7_1 := HSb7_10.out.cell (i := 1) rfl
  have zb8_0 := HSb8_10.out.cell (i := 0) rfl
  have zb8_1 := HSb8_10.out.cell (i := 1) rfl
  have zb9_0 := HSb9_10.out.cell (i := 0) rfl
  have zb9_1 := HSb9_10.out.cell (i := 1) rfl
  have zb4_l := HSb4_10.out.lt
  have zb5_l := HSb5_10.out.lt
  have zb6_l := HSb6_10.out.lt
  have zb7_l := HSb7_10.out.lt
  have zb8_l := HSb8_10.out.lt
  have zb9_l := HSb9_10.out.lt
  clear A1 A2 A3 A4 A5 HT HB10 HU10
  go_wp2_with fail
  refine (awake_any _).mono ?_
  rintro e wz ⟨rfl, hbz⟩
  go_wp2
  exact bodyPost_ret (v := .bool true) (by simp [results, Tryz.results3, go_sem]) rfl ⟨rfl, Gr.tr HG10.out hbz⟩
end Go.Proofs.YtcngaohfemdfjaaGreat
