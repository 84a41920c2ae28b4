import Derived.Test.YtcngaohfemdfjaaGreatH3
set_option linter.unusedVariables false
set_option linter.unusedSimpArgs false
set_option maxRecDepth 100000
set_option maxHeartbeats 60000000
namespace Go.Proofs.YtcngaohfemdfjaaGreat
open Go.RowKit
theorem rdepths_no (k : Cd) (u : Cu) (w : World) (hT : TsA k.p.l (.slice k.sp k.p.l.length k.cap) w) (z : Int) (hz0 : (z != 0) = true) (hr : Hid (k.roomA u = (0, 0, z))) :
    Calls Tryz.prog 23 #[.agg k.cs.toArray, .agg #[.int .i64 u.a, .int .i64 u.b, .int .i64 u.c, .int .i64 u.d]] w fun e w' => e = .returned (.tuple #[.agg #[.int .i64 0, .int .i64 0], .int .i64 z]) ∧ Below w.heap.size w w' := by
  have HRM : Hid (∀ W, TsA k.p.l (.slice k.sp k.p.l.length k.cap) W → Calls Tryz.prog 21 #[.agg k.cs.toArray, .agg #[.int .i64 u.a, .int .i64 u.b, .int .i64 u.c, .int .i64 u.d]] W fun e w' => e = .returned (.tuple #[.agg #[.int .i64 0, .int .i64 0], .int .i64 z]) ∧ Below W.heap.size W w') := Lib.hid fun W h => rroom_any k u W h hr.out
  have HG0 := Lib.hid (show Gr w (((w.alloc (Obj.cells k.cs.toArray 28)).alloc (Obj.cells #[.int .i64 u.a, .int .i64 u.b, .int .i64 u.c, .int .i64 u.d] 30)).alloc (Obj.cells #[.int .i64 0, .int .i64 0] 23)) from ((Gr.alloc _ _).tr (Gr.alloc _ _)).tr (Gr.alloc _ _))
  have TH := Lib.hid (fun (W : World) (hg : Gr (((w.alloc (Obj.cells k.cs.toArray 28)).alloc (Obj.cells #[.int .i64 u.a, .int .i64 u.b, .int .i64 u.c, .int .i64 u.d] 30)).alloc (Obj.cells #[.int .i64 0, .int .i64 0] 23)) W) => TsA.lasts k.p.l _ _ _ hT (HG0.out.tr hg))
  have HB0 := Lib.hid (show Box (((w.alloc (Obj.cells k.cs.toArray 28)).alloc (Obj.cells #[.int .i64 u.a, .int .i64 u.b, .int .i64 u.c, .int .i64 u.d] 30)).alloc (Obj.cells #[.int .i64 0, .int .i64 0] 23)) w.heap.size k.cs 28 from (Box.fresh w k.cs 28).grow ((Gr.alloc _ _).tr (Gr.alloc _ _)))
  have HU0 := Lib.hid (show Box (((w.alloc (Obj.cells k.cs.toArray 28)).alloc (Obj.cells #[.int .i64 u.a, .int .i64 u.b, .int .i64 u.c, .int .i64 u.d] 30)).alloc (Obj.cells #[.int .i64 0, .int .i64 0] 23)) (w.heap.size + 1) [.int .i64 u.a, .int .i64 u.b, .int .i64 u.c, .int .i64 u.d] 30 by simpa using (Box.fresh (w.alloc (Obj.cells k.cs.toArray 28)) [.int .i64 u.a, .int .i64 u.b, .int .i64 u.c, .int .i64 u.d] 30).grow (Gr.alloc _ (Obj.cells #[.int .i64 0, .int .i64 0] 23)))
  have HZ0 := Lib.hid (show Box (((w.alloc (Obj.cells k.cs.toArray 28)).alloc (Obj.cells #[.int .i64 u.a, .int .i64 u.b, .int .i64 u.c, .int .i64 u.d] 30)).alloc (Obj.cells #[.int .i64 0, .int .i64 0] 23)) (w.heap.size + 1 + 1) [.int .i64 0, .int .i64 0] 23 by simpa using Box.fresh ((w.alloc (Obj.cells k.cs.toArray 28)).alloc (Obj.cells #[.int .i64 u.a, .int .i64 u.b, .int .i64 u.c, .int .i64 u.d] 30)) [.int .i64 0, .int .i64 0] 23)
  clear hT
  have hl : k.cs.length = 17 := rfl
  go_enter Tryz.func23, Tryz.ntmps23
  go_upto_region 1 with fail
  generalize hV0 : (((w.alloc (Obj.cells k.cs.toArray 28)).alloc (Obj.cells #[.int .i64 u.a, .int .i64 u.b, .int .i64 u.c, .int .i64 u.d] 30)).alloc (Obj.cells #[.int .i64 0, .int .i64 0] 23)) = V0 at *
  clear hV0
  have uq0 := HU0.out.cell (i := 0) rfl
  have uq1 := HU0.out.cell (i := 1) rfl
  have uq2 := HU0.out.cell (i := 2) rfl
  have uq3 := HU0.out.cell (i := 3) rfl
  have uql := HU0.out.lt
  go_wp2_with (first | (with_reducible refine wsl (ty := 28) rfl ?_; unfold Stop; first | refine wlb row28 rfl (HB0.out) rfl rfl rfl ?_ | refine wlg row28 rfl (HB0.out) (Cd.whole k) rfl rfl rfl ?_))
  refine (HRM.out _ (TH.out _ (Gr.same _))).mono ?_
  rintro e w1 ⟨rfl, hb1⟩
  have hga := Gr.tr hb1 (Gr.alloc w1 (Obj.cells #[.int .i64 0, .int .i64 0] 23))
  have HG1 := Lib.hid (HG0.out.tr hga)
  have HB1 := Lib.hid (HB0.out.grow hga)
  have HZ1 := Lib.hid (HZ0.out.grow hga)
  have HS1 := Lib.hid (Box.fresh w1 [.int .i64 0, .int .i64 0] 23)
  have TH1 := Lib.hid (TH.out _ hga)
  clear hb1 hga uq0 uq1 uq2 uq3 uql HB0 HZ0 HU0 TH HRM
  have z0 := HZ1.out.cell (i := 0) rfl
  have z1 := HZ1.out.cell (i := 1) rfl
  have zf := HZ1.out.free
  have zl := HZ1.out.lt
  go_wp2_with fail
  exact bodyPost_ret (v := .tuple #[.agg #[.int .i64 0, .int .i64 0], .int .i64 z]) (by simp [results, Tryz.results23, go_sem, z0, z1, zl, zf]) rfl ⟨rfl, ((show Below w.heap.size w _ from HG1.out).setCell (show w.heap.size ≤ w.heap.size + 1 + 1 by omega) _).setCell (show w.heap.size ≤ w.heap.size + 1 + 1 by omega) _⟩
theorem rdepths_pos (k : Cd) (u : Cu) (w : World) (hT : TsA k.p.l (.slice k.sp k.p.l.length k.cap) w) (x y : Int) (hr : Hid (k.roomA u = (x, y, 0))) (hx0 : 0 < x) (hxy : 0 ≤ x ∧ x ≤ y ∧ y ≤ 2000) (P Q : Int) (hpq : 1 ≤ P ∧ P ≤ Q ∧ Q ≤ 500000000) (hP : Hid (k.p.power = (P, Q, 0))) (hne : 2000 ≤ k.p.ne ∧ k.p.ne ≤ 1073741824) (hfa : 2000 ≤ k.p.fa ∧ k.p.fa ≤ 1073741824) (lo hi : Int) (hlo : imax k.p.ne (Q / (y + 1) + 1) = lo) (hhi : imin k.p.fa (P / x) = hi) (c : Bool) (hcc : decide (hi < lo) = c) (a b z : Int) (ha : Hid (a = if c = true then 0 else lo)) (hb : Hid (b = if c = true then 0 else hi)) (hz0 : Hid (z = if c = true then 4 else 0)) :
    Calls Tryz.prog 23 #[.agg k.cs.toArray, .agg #[.int .i64 u.a, .int .i64 u.b, .int .i64 u.c, .int .i64 u.d]] w fun e w' => e = .returned (.tuple #[.agg #[.int .i64 a, .int .i64 b], .int .i64 z]) ∧ Below w.heap.size w w' := by
  have hmx : ∀ (x y : Int), (if x < y then y else x) = imax x y := fun _ _ => rfl
  have hmn : ∀ (x y : Int), (if y < x then y else x) = imin x y := fun _ _ => rfl
  obtain ⟨x0, x1, x2⟩ := hxy
  obtain ⟨p0, p1, p2⟩ := hpq
  obtain ⟨n0, n1⟩ := hne
  obtain ⟨f0, f1⟩ := hfa
  have d0 : 0 ≤ Q / (y + 1) := Int.ediv_nonneg (by omega) (by omega)
  have d1 : Q / (y + 1) ≤ Q := Int.ediv_le_self _ (by omega)
  have ew : IntKind.i64.wrap (y + 1) = y + 1 := IntWalk.i64_in _ ⟨by omega, by omega⟩
  have e5 : IntKind.i64.wrap (Q / (y + 1) + 1) = Q / (y + 1) + 1 := IntWalk.i64_in _ ⟨by omega, by omega⟩
  have e0 : (y + 1 = 0) = False := eq_false (by omega)
  have e1 : Q.tdiv (y + 1) = Q / (y + 1) := Int.tdiv_eq_ediv_of_nonneg (by omega)
  have e2 : IntKind.i64.wrap (Q / (y + 1)) = Q / (y + 1) := IntWalk.i64_in _ ⟨by omega, by omega⟩
  have e3 : IntKind.i64.wrap (Q.tdiv (y + 1)) = Q / (y + 1) := by rw [e1]; exact e2
  have g0 : 0 ≤ P / x := Int.ediv_nonneg (by omega) (by omega)
  have g1 : P / x ≤ P := Int.ediv_le_self _ (by omega)
  have f0' : (x = 0) = False := eq_false (by omega)
  have g2 : P.tdiv x = P / x := Int.tdiv_eq_ediv_of_nonneg (by omega)
  have g3 : IntKind.i64.wrap (P / x) = P / x := IntWalk.i64_in _ ⟨by omega, by omega⟩
  have g4 : IntKind.i64.wrap (P.tdiv x) = P / x := by rw [g2]; exact g3
  have HP : Hid (∀ W, TsA k.p.l (.slice k.sp k.p.l.length k.cap) W → Calls Tryz.prog 65 #[.agg k.pr.toArray] W fun e w' => e = .returned (.tuple #[.agg #[.int .i64 P, .int .i64 Q], .int .i64 0]) ∧ Below W.heap.size W w') := Lib.hid fun W hT' => by
    have := rpower_any k.p (.slice k.sp k.p.l.length k.cap) W hT'
    rw [hP.out] at this
    exact this
  have HRM : Hid (∀ W, TsA k.p.l (.slice k.sp k.p.l.length k.cap) W → Calls Tryz.prog 21 #[.agg k.cs.toArray, .agg #[.int .i64 u.a, .int .i64 u.b, .int .i64 u.c, .int .i64 u.d]] W fun e w' => e = .returned (.tuple #[.agg #[.int .i64 x, .int .i64 y], .int .i64 0]) ∧ Below W.heap.size W w') := Lib.hid fun W h => rroom_any k u W h hr.out
  have HG0 := Lib.hid (show Gr w (((w.alloc (Obj.cells k.cs.toArray 28)).alloc (Obj.cells #[.int .i64 u.a, .int .i64 u.b, .int .i64 u.c, .int .i64 u.d] 30)).alloc (Obj.cells #[.int .i64 0, .int .i64 0] 23)) from ((Gr.alloc _ _).tr (Gr.alloc _ _)).tr (Gr.alloc _ _))
  have TH := Lib.hid (fun (W : World) (hg : Gr (((w.alloc (Obj.cells k.cs.toArray 28)).alloc (Obj.cells #[.int .i64 u.a, .int .i64 u.b, .int .i64 u.c, .int .i64 u.d] 30)).alloc (Obj.cells #[.int .i64 0, .int .i64 0] 23)) W) => TsA.lasts k.p.l _ _ _ hT (HG0.out.tr hg))
  have HB0 := Lib.hid (show Box (((w.alloc (Obj.cells k.cs.toArray 28)).alloc (Obj.cells #[.int .i64 u.a, .int .i64 u.b, .int .i64 u.c, .int .i64 u.d] 30)).alloc (Obj.cells #[.int .i64 0, .int .i64 0] 23)) w.heap.size k.cs 28 from (Box.fresh w k.cs 28).grow ((Gr.alloc _ _).tr (Gr.alloc _ _)))
  have HU0 := Lib.hid (show Box (((w.alloc (Obj.cells k.cs.toArray 28)).alloc (Obj.cells #[.int .i64 u.a, .int .i64 u.b, .int .i64 u.c, .int .i64 u.d] 30)).alloc (Obj.cells #[.int .i64 0, .int .i64 0] 23)) (w.heap.size + 1) [.int .i64 u.a, .int .i64 u.b, .int .i64 u.c, .int .i64 u.d] 30 by simpa using (Box.fresh (w.alloc (Obj.cells k.cs.toArray 28)) [.int .i64 u.a, .int .i64 u.b, .int .i64 u.c, .int .i64 u.d] 30).grow (Gr.alloc _ (Obj.cells #[.int .i64 0, .int .i64 0] 23)))
  have HZ0 := Lib.hid (show Box (((w.alloc (Obj.cells k.cs.toArray 28)).alloc (Obj.cells #[.int .i64 u.a, .int .i64 u.b, .int .i64 u.c, .int .i64 u.d] 30)).alloc (Obj.cells #[.int .i64 0, .int .i64 0] 23)) (w.heap.size + 1 + 1) [.int .i64 0, .int .i64 0] 23 by simpa using Box.fresh ((w.alloc (Obj.cells k.cs.toArray 28)).alloc (Obj.cells #[.int .i64 u.a, .int .i64 u.b, .int .i64 u.c, .int .i64 u.d] 30)) [.int .i64 0, .int .i64 0] 23)
  clear hT
  have hl : k.cs.length = 17 := rfl
  go_enter Tryz.func23, Tryz.ntmps23
  go_upto_region 1 with fail
  generalize hV0 : (((w.alloc (Obj.cells k.cs.toArray 28)).alloc (Obj.cells #[.int .i64 u.a, .int .i64 u.b, .int .i64 u.c, .int .i64 u.d] 30)).alloc (Obj.cells #[.int .i64 0, .int .i64 0] 23)) = V0 at *
  clear hV0
  have uq0 := HU0.out.cell (i := 0) rfl
  have uq1 := HU0.out.cell (i := 1) rfl
  have uq2 := HU0.out.cell (i := 2) rfl
  have uq3 := HU0.out.cell (i := 3) rfl
  have uql := HU0.out.lt
  go_wp2_with (first | (with_reducible refine wsl (ty := 28) rfl ?_; unfold Stop; first | refine wlb row28 rfl (HB0.out) rfl rfl rfl ?_ | refine wlg row28 rfl (HB0.out) (Cd.whole k) rfl rfl rfl ?_))
  refine (HRM.out _ (TH.out _ (Gr.same _))).mono ?_
  rintro e w1 ⟨rfl, hb1⟩
  have hga := Gr.tr hb1 (Gr.alloc w1 (Obj.cells #[.int .i64 x, .int .i64 y] 23))
  have HG1 := Lib.hid (HG0.out.tr hga)
  have HB1 := Lib.hid (HB0.out.grow hga)
  have HZ1 := Lib.hid (HZ0.out.grow hga)
  have HS1 := Lib.hid (Box.fresh w1 [.int .i64 x, .int .i64 y] 23)
  have TH1 := Lib.hid (TH.out _ hga)
  clear hb1 hga uq0 uq1 uq2 uq3 uql HB0 HZ0 HU0 TH HRM
  go_wp2_with (first | (with_reducible refine wsl (ty := 26) rfl ?_; unfold Stop; refine wpList_loadPart row26 rfl (HB1.out) (Cd.part8 k) rfl rfl rfl ?_))
  refine (HP.out _ TH1.out).mono ?_
  rintro e w2 ⟨rfl, hb2⟩
  have hga := Gr.tr hb2 (Gr.alloc w2 (Obj.cells #[.int .i64 P, .int .i64 Q] 23))
  have HG2 := Lib.hid (HG1.out.tr hga)
  have HB2 := Lib.hid (HB1.out.grow hga)
  have HZ2 := Lib.hid (HZ1.out.grow hga)
  have HS2 := Lib.hid (HS1.out.grow hga)
  have HQ2 := Lib.hid (Box.fresh w2 [.int .i64 P, .int .i64 Q] 23)
  clear hb2 hga HB1 HZ1 HS1 TH1
  go_upto_region 5 with fail
  have hsz : w1.heap.size < (w2.alloc (Obj.cells #[.int .i64 P, .int .i64 Q] 23)).heap.size := HS2.out.lt
  have hzz : w.heap.size + 1 + 1 < (w2.alloc (Obj.cells #[.int .i64 P, .int .i64 Q] 23)).heap.size := HZ2.out.lt
  generalize (w2.alloc (Obj.cells #[.int .i64 P, .int .i64 Q] 23)) = V2 at *
  generalize w2.heap.size = bq at *
  generalize w1.heap.size = bsh at *
  have c5 := HB2.out.cell (i := 5) rfl
  have c6 := HB2.out.cell (i := 6) rfl
  have cl := HB2.out.lt
  have s0 := HS2.out.cell (i := 0) rfl
  have s1 := HS2.out.cell (i := 1) rfl
  have sl := HS2.out.lt
  have p0' := HQ2.out.cell (i := 0) rfl
  have p1' := HQ2.out.cell (i := 1) rfl
  have pl := HQ2.out.lt
  refine regionB 16 ?_ ?_ ?_
  · kernel_rfl
  · kernel_rfl
  simp only [List.take_succ_cons, List.take_zero, List.drop_succ_cons, List.drop_zero]
  apply cbe (D := [(2, none)]) rfl (by kernel_rfl)
  · intro ρ W ⟨p1,p2,p3⟩ hG hF K hK; (try simp [FD, exB] at hF); have ⟨hc, hf, hz⟩ := bdr hG; go_simp; exact hK _ gv
  apply cbe (D := [(27, some 0)]) rfl (by kernel_rfl)
  · intro ρ W ⟨p1,p2,p3⟩ hG hF K hK; (try simp [FD, exB] at hF); have ⟨hc, hf, hz⟩ := bdr hG; go_simp; exact hK _ gv
  apply cbe (D := [(28, some 0)]) rfl (by kernel_rfl)
  · intro ρ W ⟨p1,p2,p3⟩ hG hF K hK; (try simp [FD, exB] at hF); have ⟨hc, hf, hz⟩ := bdr hG; go_simp; exact hK _ gv
  apply cbe (D := [(8, none)]) rfl (by kernel_rfl)
  · intro ρ W ⟨p1,p2,p3⟩ hG hF K hK; (try simp [FD, exB] at hF); have ⟨hc, hf, hz⟩ := bdr hG; go_simp; exact hK _ gv
  apply cbe (D := [(30, some 0)]) rfl (by kernel_rfl)
  · intro ρ W ⟨p1,p2,p3⟩ hG hF K hK; (try simp [FD, exB] at hF); have ⟨hc, hf, hz⟩ := bdr hG; go_simp; exact hK _ gv
  apply cbe (D := [(6, none)]) rfl (by kernel_rfl)
  · intro ρ W ⟨p1,p2,p3⟩ hG hF K hK; (try simp [FD, exB] at hF); have ⟨hc, hf, hz⟩ := bdr hG; go_simp; exact hK _ gv
  apply cbe (D := [(32, some 0)]) rfl (by kernel_rfl)
  · intro ρ W ⟨p1,p2,p3⟩ hG hF K hK; (try simp [FD, exB] at hF); have ⟨hc, hf, hz⟩ := bdr hG; go_simp; exact hK _ gv
  apply cbe (D := [(33, some 0)]) rfl (by kernel_rfl)
  · intro ρ W ⟨p1,p2,p3⟩ hG hF K hK; (try simp [FD, exB] at hF); have ⟨hc, hf, hz⟩ := bdr hG; go_simp; exact hK _ gv
  apply cbe (D := [(31, some 3), (34, some 0)]) rfl (by kernel_rfl)
  · intro ρ W ⟨p1,p2,p3⟩ hG hF K hK; (try simp [FD, exB] at hF); have ⟨hc, hf, hz⟩ := bdr hG; go_simp; exact hK _ gv
  apply cbe (D := [(35, some 0)]) rfl (by kernel_rfl)
  · intro ρ W ⟨p1,p2,p3⟩ hG hF K hK; (try simp [FD, exB] at hF); have ⟨hc, hf, hz⟩ := bdr hG; go_simp; exact hK _ gv
  apply cbe (D := [(29, some 7), (36, some 0)]) rfl (by kernel_rfl)
  · intro ρ W ⟨p1,p2,p3⟩ hG hF K hK; (try simp [FD, exB] at hF); have ⟨hc, hf, hz⟩ := bdr hG; go_simp; exact hK _ gv
  apply cbe (D := [(2, none)]) rfl (by kernel_rfl)
  · intro ρ W ⟨p1,p2,p3⟩ hG hF K hK; (try simp [FD, exB] at hF); have ⟨hc, hf, hz⟩ := bdr hG; go_simp; exact hK _ gv
  apply cbe (D := [(38, some 0)]) rfl (by kernel_rfl)
  · intro ρ W ⟨p1,p2,p3⟩ hG hF K hK; (try simp [FD, exB] at hF); have ⟨hc, hf, hz⟩ := bdr hG; go_simp; exact hK _ gv
  apply cbe (D := [(39, some 0)]) rfl (by kernel_rfl)
  · intro ρ W ⟨p1,p2,p3⟩ hG hF K hK; (try simp [FD, exB] at hF); have ⟨hc, hf, hz⟩ := bdr hG; go_simp; exact hK _ gv
  apply cbe (D := [(37, some 3), (40, some 0)]) rfl (by kernel_rfl)
  · intro ρ W ⟨p1,p2,p3⟩ hG hF K hK; (try simp [FD, exB] at hF); have ⟨hc, hf, hz⟩ := bdr hG; go_simp; exact hK _ gv
  refine chainB_any (V := fun p v W' => NewB [.int .i64 0, .int .i64 0] 23 p v W' ∧ V2.heap.size ≤ p.1) (D := []) rfl (by kernel_rfl) (fun p v A B h hg => ⟨NewB.lasts _ _ p v A B h.1 hg, h.2⟩) ?_ ?_
  · intro ρ W ⟨p1,p2,p3⟩ hG hF K hK; (try simp [FD, exB] at hF); have ⟨hc, hf, hz⟩ := bdr hG; go_simp; exact hK _ (⟨⟨NewB.new _ _ _, by have := hG.size; simpa using this⟩, Gr.alloc _ _⟩)
  refine chainB_done ?_
  intro vs bs W hG hV hdj
  obtain ⟨e15, e14, -⟩ := hV
  simp only [Nat.reduceSub] at e14 e15
  clear hdj
  simp only [lay, Act.put, List.getElem?_toArray, List.getElem?_cons_succ, List.getElem?_cons_zero, Option.bind_some, List.setIfInBounds_toArray, List.set_cons_succ, List.set_cons_zero]
  generalize vs 0 = v0, vs 1 = v1, vs 2 = v2, vs 3 = v3, vs 4 = v4, vs 5 = v5, vs 6 = v6, vs 7 = v7, vs 8 = v8, vs 9 = v9, vs 10 = v10, vs 11 = v11, vs 12 = v12, vs 13 = v13
  generalize vs 14 = v14 at *
  generalize vs 15 = v15 at *
  subst e14
  obtain ⟨hc, hf, hz⟩ := bcell hG
  obtain ⟨⟨bo, rfl, hbo, hbo', hBo⟩, hbon⟩ := e15
  obtain ⟨y0_, y1_, yf0, yf1, yl⟩ := hBo.two
  have HO := Lib.hid hBo
  have HGW := Lib.hid hG
  have hbo2 : V2.heap.size ≤ bo := by omega
  have hos : bo ≠ bsh := by omega
  have hoq : bo ≠ bq := by omega
  have hoz : bo ≠ w.heap.size + 1 + 1 := by omega
  rw [hlo] at *
  clear hBo hbo' hG
  have HO3 := Lib.hid (show Box ((W.setCell ⟨bo, 0, none⟩ (.int .i64 lo)).setCell ⟨bo, 1, none⟩ (.int .i64 k.p.fa)) bo [.int .i64 lo, .int .i64 k.p.fa] 23 from (HO.out.put 0 (.int .i64 lo)).put 1 (.int .i64 k.p.fa))
  have HG3 := Lib.hid (show Gr V2 ((W.setCell ⟨bo, 0, none⟩ (.int .i64 lo)).setCell ⟨bo, 1, none⟩ (.int .i64 k.p.fa)) from ((show Below V2.heap.size V2 W from HGW.out).setCell hbo2 _).setCell hbo2 _)
  go_upto_region 6 with fail
  generalize ((W.setCell ⟨bo, 0, none⟩ (.int .i64 lo)).setCell ⟨bo, 1, none⟩ (.int .i64 k.p.fa)) = W3 at *
  have HZ3 := Lib.hid (HZ2.out.grow HG3.out)
  have HS3 := Lib.hid (HS2.out.grow HG3.out)
  have HQ3 := Lib.hid (HQ2.out.grow HG3.out)
  clear c5 c6 cl s0 s1 sl p0' p1' pl y0_ y1_ yf0 yf1 yl HO HGW hc hf hz HB2 HZ2 HS2 HQ2
  have s0 := HS3.out.cell (i := 0) rfl
  have s1 := HS3.out.cell (i := 1) rfl
  have sl := HS3.out.lt
  have o0 := HO3.out.cell (i := 0) rfl
  have o1 := HO3.out.cell (i := 1) rfl
  have ol := HO3.out.lt
  have p0' := HQ3.out.cell (i := 0) rfl
  have p1' := HQ3.out.cell (i := 1) rfl
  have pl := HQ3.out.lt
  go_upto_region 7 with fail
  refine region2 9 ?_ ?_ ?_
  · kernel_rfl
  · kernel_rfl
  simp only [List.take_succ_cons, List.take_zero, List.drop_succ_cons, List.drop_zero]
  apply ceq (D := [(10, none)]) rfl (by kernel_rfl)
  · intro ρ W ⟨p1,p2,p3⟩ hG hF K hK; (try simp [FD] at hF); have ⟨hc, hf, hz⟩ := bdr hG; go_simp; exact hK _ gv
  apply ceq (D := [(45, some 0)]) rfl (by kernel_rfl)
  · intro ρ W ⟨p1,p2,p3⟩ hG hF K hK; (try simp [FD] at hF); have ⟨hc, hf, hz⟩ := bdr hG; go_simp; exact hK _ gv
  apply ceq (D := [(8, none)]) rfl (by kernel_rfl)
  · intro ρ W ⟨p1,p2,p3⟩ hG hF K hK; (try simp [FD] at hF); have ⟨hc, hf, hz⟩ := bdr hG; go_simp; exact hK _ gv
  apply ceq (D := [(47, some 0)]) rfl (by kernel_rfl)
  · intro ρ W ⟨p1,p2,p3⟩ hG hF K hK; (try simp [FD] at hF); have ⟨hc, hf, hz⟩ := bdr hG; go_simp; exact hK _ gv
  apply ceq (D := [(6, none)]) rfl (by kernel_rfl)
  · intro ρ W ⟨p1,p2,p3⟩ hG hF K hK; (try simp [FD] at hF); have ⟨hc, hf, hz⟩ := bdr hG; go_simp; exact hK _ gv
  apply ceq (D := [(49, some 0)]) rfl (by kernel_rfl)
  · intro ρ W ⟨p1,p2,p3⟩ hG hF K hK; (try simp [FD] at hF); have ⟨hc, hf, hz⟩ := bdr hG; go_simp; exact hK _ gv
  apply ceq (D := [(48, some 2), (50, some 0)]) rfl (by kernel_rfl)
  · intro ρ W ⟨p1,p2,p3⟩ hG hF K hK; (try simp [FD] at hF); have ⟨hc, hf, hz⟩ := bdr hG; go_simp; exact hK _ gv
  apply ceq (D := [(46, some 5), (51, some 0)]) rfl (by kernel_rfl)
  · intro ρ W ⟨p1,p2,p3⟩ hG hF K hK; (try simp [FD] at hF); have ⟨hc, hf, hz⟩ := bdr hG; go_simp; exact hK _ gv
  apply ceq (D := [(10, none)]) rfl (by kernel_rfl)
  · intro ρ W ⟨p1,p2,p3⟩ hG hF K hK; (try simp [FD] at hF); have ⟨hc, hf, hz⟩ := bdr hG; go_simp; exact hK _ gv
  refine cdn ?_
  intro vs W hG hV
  obtain ⟨e8, e7, -⟩ := hV
  simp only [Nat.reduceSub] at e7 e8
  simp only [lay, Act.put, List.getElem?_toArray, List.getElem?_cons_succ, List.getElem?_cons_zero, Option.bind_some, List.setIfInBounds_toArray, List.set_cons_succ, List.set_cons_zero]
  generalize vs 0 = v0, vs 1 = v1, vs 2 = v2, vs 3 = v3, vs 4 = v4, vs 5 = v5, vs 6 = v6
  generalize vs 7 = v7 at *
  generalize vs 8 = v8 at *
  subst e7
  subst e8
  obtain ⟨hc, hf, hz⟩ := bcell hG
  rw [hhi] at *
  have of' := (HO3.out.grow hG).free
  have oc1 := (HO3.out.grow hG).cell (i := 1) rfl
  have oll := (HO3.out.grow hG).lt
  have HO4 := Lib.hid ((HO3.out.grow hG).put 1 (.int .i64 hi))
  have HZ4 := Lib.hid ((HZ3.out.grow hG).other (Ne.symm hoz) 1 (.int .i64 hi))
  have HG4 := Lib.hid (show Gr V2 (W.setCell ⟨bo, 1, none⟩ (.int .i64 hi)) from (show Below V2.heap.size V2 W from Gr.tr HG3.out hG).setCell hbo2 _)
  clear hc hf hz hG o0 o1 ol s0 s1 sl p0' p1' pl
  go_upto_region 8 with fail
  clear of' oc1 oll
  generalize (W.setCell ⟨bo, 1, none⟩ (.int .i64 hi)) = W4 at *
  have o0 := HO4.out.cell (i := 0) rfl
  have o1 := HO4.out.cell (i := 1) rfl
  have ol := HO4.out.lt
  have HGE := Lib.hid (Gr.tr HG2.out HG4.out)
  have z0 := HZ4.out.cell (i := 0) rfl
  have z1 := HZ4.out.cell (i := 1) rfl
  have zf := HZ4.out.free
  have zl := HZ4.out.lt
  cases c with
  | true =>
    have hc' := of_decide_eq_true hcc
    go_wp2_with fail
    exact bodyPost_ret (v := .tuple #[.agg #[.int .i64 0, .int .i64 0], .int .i64 4]) (by simp [results, Tryz.results23, go_sem, z0, z1, zl, zf]) rfl ⟨by rw [ha.out, hb.out, hz0.out]; rfl, ((show Below w.heap.size w _ from HGE.out).setCell (show w.heap.size ≤ w.heap.size + 1 + 1 by omega) _).setCell (show w.heap.size ≤ w.heap.size + 1 + 1 by omega) _⟩
  | false =>
    have hc' := of_decide_eq_false hcc
    go_wp2_with fail
    exact bodyPost_ret (v := .tuple #[.agg #[.int .i64 lo, .int .i64 hi], .int .i64 0]) (by simp [results, Tryz.results23, go_sem, z0, z1, zl, zf]) rfl ⟨by rw [ha.out, hb.out, hz0.out]; rfl, ((show Below w.heap.size w _ from HGE.out).setCell (show w.heap.size ≤ w.heap.size + 1 + 1 by omega) _).setCell (show w.heap.size ≤ w.heap.size + 1 + 1 by omega) _⟩
theorem rdepths_nil (k : Cd) (u : Cu) (w : World) (hT : TsA k.p.l (.slice k.sp k.p.l.length k.cap) w) (y : Int) (hr : Hid (k.roomA u = (0, y, 0))) (hxy : 0 ≤ (0 : Int) ∧ (0 : Int) ≤ y ∧ y ≤ 2000) (P Q : Int) (hpq : 1 ≤ P ∧ P ≤ Q ∧ Q ≤ 500000000) (hP : Hid (k.p.power = (P, Q, 0))) (hne : 2000 ≤ k.p.ne ∧ k.p.ne ≤ 1073741824) (hfa : 2000 ≤ k.p.fa ∧ k.p.fa ≤ 1073741824) (lo hi : Int) (hlo : imax k.p.ne (Q / (y + 1) + 1) = lo) (hhi : k.p.fa = hi) (c : Bool) (hcc : decide (hi < lo) = c) (a b z : Int) (ha : Hid (a = if c = true then 0 else lo)) (hb : Hid (b = if c = true then 0 else hi)) (hz0 : Hid (z = if c = true then 4 else 0)) :
    Calls Tryz.prog 23 #[.agg k.cs.toArray, .agg #[.int .i64 u.a, .int .i64 u.b, .int .i64 u.c, .int .i64 u.d]] w fun e w' => e = .returned (.tuple #[.agg #[.int .i64 a, .int .i64 b], .int .i64 z]) ∧ Below w.heap.size w w' := by
  have hmx : ∀ (x y : Int), (if x < y then y else x) = imax x y := fun _ _ => rfl
  have hmn : ∀ (x y : Int), (if y < x then y else x) = imin x y := fun _ _ => rfl
  obtain ⟨x0, x1, x2⟩ := hxy
  obtain ⟨p0, p1, p2⟩ := hpq
  obtain ⟨n0, n1⟩ := hne
  obtain ⟨f0, f1⟩ := hfa
  have d0 : 0 ≤ Q / (y + 1) := Int.ediv_nonneg (by omega) (by omega)
  have d1 : Q / (y + 1) ≤ Q := Int.ediv_le_self _ (by omega)
  have ew : IntKind.i64.wrap (y + 1) = y + 1 := IntWalk.i64_in _ ⟨by omega, by omega⟩
  have e5 : IntKind.i64.wrap (Q / (y + 1) + 1) = Q / (y + 1) + 1 := IntWalk.i64_in _ ⟨by omega, by omega⟩
  have e0 : (y + 1 = 0) = False := eq_false (by omega)
  have e1 : Q.tdiv (y + 1) = Q / (y + 1) := Int.tdiv_eq_ediv_of_nonneg (by omega)
  have e2 : IntKind.i64.wrap (Q / (y + 1)) = Q / (y + 1) := IntWalk.i64_in _ ⟨by omega, by omega⟩
  have e3 : IntKind.i64.wrap (Q.tdiv (y + 1)) = Q / (y + 1) := by rw [e1]; exact e2
  have HHI := Lib.hid hhi
  clear hhi
  have HP : Hid (∀ W, TsA k.p.l (.slice k.sp k.p.l.length k.cap) W → Calls Tryz.prog 65 #[.agg k.pr.toArray] W fun e w' => e = .returned (.tuple #[.agg #[.int .i64 P, .int .i64 Q], .int .i64 0]) ∧ Below W.heap.size W w') := Lib.hid fun W hT' => by
    have := rpower_any k.p (.slice k.sp k.p.l.length k.cap) W hT'
    rw [hP.out] at this
    exact this
  have HRM : Hid (∀ W, TsA k.p.l (.slice k.sp k.p.l.length k.cap) W → Calls Tryz.prog 21 #[.agg k.cs.toArray, .agg #[.int .i64 u.a, .int .i64 u.b, .int .i64 u.c, .int .i64 u.d]] W fun e w' => e = .returned (.tuple #[.agg #[.int .i64 0, .int .i64 y], .int .i64 0]) ∧ Below W.heap.size W w') := Lib.hid fun W h => rroom_any k u W h hr.out
  have HG0 := Lib.hid (show Gr w (((w.alloc (Obj.cells k.cs.toArray 28)).alloc (Obj.cells #[.int .i64 u.a, .int .i64 u.b, .int .i64 u.c, .int .i64 u.d] 30)).alloc (Obj.cells #[.int .i64 0, .int .i64 0] 23)) from ((Gr.alloc _ _).tr (Gr.alloc _ _)).tr (Gr.alloc _ _))
  have TH := Lib.hid (fun (W : World) (hg : Gr (((w.alloc (Obj.cells k.cs.toArray 28)).alloc (Obj.cells #[.int .i64 u.a, .int .i64 u.b, .int .i64 u.c, .int .i64 u.d] 30)).alloc (Obj.cells #[.int .i64 0, .int .i64 0] 23)) W) => TsA.lasts k.p.l _ _ _ hT (HG0.out.tr hg))
  have HB0 := Lib.hid (show Box (((w.alloc (Obj.cells k.cs.toArray 28)).alloc (Obj.cells #[.int .i64 u.a, .int .i64 u.b, .int .i64 u.c, .int .i64 u.d] 30)).alloc (Obj.cells #[.int .i64 0, .int .i64 0] 23)) w.heap.size k.cs 28 from (Box.fresh w k.cs 28).grow ((Gr.alloc _ _).tr (Gr.alloc _ _)))
  have HU0 := Lib.hid (show Box (((w.alloc (Obj.cells k.cs.toArray 28)).alloc (Obj.cells #[.int .i64 u.a, .int .i64 u.b, .int .i64 u.c, .int .i64 u.d] 30)).alloc (Obj.cells #[.int .i64 0, .int .i64 0] 23)) (w.heap.size + 1) [.int .i64 u.a, .int .i64 u.b, .int .i64 u.c, .int .i64 u.d] 30 by simpa using (Box.fresh (w.alloc (Obj.cells k.cs.toArray 28)) [.int .i64 u.a, .int .i64 u.b, .int .i64 u.c, .int .i64 u.d] 30).grow (Gr.alloc _ (Obj.cells #[.int .i64 0, .int .i64 0] 23)))
  have HZ0 := Lib.hid (show Box (((w.alloc (Obj.cells k.cs.toArray 28)).alloc (Obj.cells #[.int .i64 u.a, .int .i64 u.b, .int .i64 u.c, .int .i64 u.d] 30)).alloc (Obj.cells #[.int .i64 0, .int .i64 0] 23)) (w.heap.size + 1 + 1) [.int .i64 0, .int .i64 0] 23 by simpa using Box.fresh ((w.alloc (Obj.cells k.cs.toArray 28)).alloc (Obj.cells #[.int .i64 u.a, .int .i64 u.b, .int .i64 u.c, .int .i64 u.d] 30)) [.int .i64 0, .int .i64 0] 23)
  clear hT
  have hl : k.cs.length = 17 := rfl
  go_enter Tryz.func23, Tryz.ntmps23
  go_upto_region 1 with fail
  generalize hV0 : (((w.alloc (Obj.cells k.cs.toArray 28)).alloc (Obj.cells #[.int .i64 u.a, .int .i64 u.b, .int .i64 u.c, .int .i64 u.d] 30)).alloc (Obj.cells #[.int .i64 0, .int .i64 0] 23)) = V0 at *
  clear hV0
  have uq0 := HU0.out.cell (i := 0) rfl
  have uq1 := HU0.out.cell (i := 1) rfl
  have uq2 := HU0.out.cell (i := 2) rfl
  have uq3 := HU0.out.cell (i := 3) rfl
  have uql := HU0.out.lt
  go_wp2_with (first | (with_reducible refine wsl (ty := 28) rfl ?_; unfold Stop; first | refine wlb row28 rfl (HB0.out) rfl rfl rfl ?_ | refine wlg row28 rfl (HB0.out) (Cd.whole k) rfl rfl rfl ?_))
  refine (HRM.out _ (TH.out _ (Gr.same _))).mono ?_
  rintro e w1 ⟨rfl, hb1⟩
  have hga := Gr.tr hb1 (Gr.alloc w1 (Obj.cells #[.int .i64 0, .int .i64 y] 23))
  have HG1 := Lib.hid (HG0.out.tr hga)
  have HB1 := Lib.hid (HB0.out.grow hga)
  have HZ1 := Lib.hid (HZ0.out.grow hga)
  have HS1 := Lib.hid (Box.fresh w1 [.int .i64 0, .int .i64 y] 23)
  have TH1 := Lib.hid (TH.out _ hga)
  clear hb1 hga uq0 uq1 uq2 uq3 uql HB0 HZ0 HU0 TH HRM
  go_wp2_with (first | (with_reducible refine wsl (ty := 26) rfl ?_; unfold Stop; refine wpList_loadPart row26 rfl (HB1.out) (Cd.part8 k) rfl rfl rfl ?_))
  refine (HP.out _ TH1.out).mono ?_
  rintro e w2 ⟨rfl, hb2⟩
  have hga := Gr.tr hb2 (Gr.alloc w2 (Obj.cells #[.int .i64 P, .int .i64 Q] 23))
  have HG2 := Lib.hid (HG1.out.tr hga)
  have HB2 := Lib.hid (HB1.out.grow hga)
  have HZ2 := Lib.hid (HZ1.out.grow hga)
  have HS2 := Lib.hid (HS1.out.grow hga)
  have HQ2 := Lib.hid (Box.fresh w2 [.int .i64 P, .int .i64 Q] 23)
  clear hb2 hga HB1 HZ1 HS1 TH1
  go_upto_region 5 with fail
  have hsz : w1.heap.size < (w2.alloc (Obj.cells #[.int .i64 P, .int .i64 Q] 23)).heap.size := HS2.out.lt
  have hzz : w.heap.size + 1 + 1 < (w2.alloc (Obj.cells #[.int .i64 P, .int .i64 Q] 23)).heap.size := HZ2.out.lt
  generalize (w2.alloc (Obj.cells #[.int .i64 P, .int .i64 Q] 23)) = V2 at *
  generalize w2.heap.size = bq at *
  generalize w1.heap.size = bsh at *
  have c5 := HB2.out.cell (i := 5) rfl
  have c6 := HB2.out.cell (i := 6) rfl
  have cl := HB2.out.lt
  have s0 := HS2.out.cell (i := 0) rfl
  have s1 := HS2.out.cell (i := 1) rfl
  have sl := HS2.out.lt
  have p0' := HQ2.out.cell (i := 0) rfl
  have p1' := HQ2.out.cell (i := 1) rfl
  have pl := HQ2.out.lt
  refine regionB 16 ?_ ?_ ?_
  · kernel_rfl
  · kernel_rfl
  simp only [List.take_succ_cons, List.take_zero, List.drop_succ_cons, List.drop_zero]
  apply cbe (D := [(2, none)]) rfl (by kernel_rfl)
  · intro ρ W ⟨p1,p2,p3⟩ hG hF K hK; (try simp [FD, exB] at hF); have ⟨hc, hf, hz⟩ := bdr hG; go_simp; exact hK _ gv
  apply cbe (D := [(27, some 0)]) rfl (by kernel_rfl)
  · intro ρ W ⟨p1,p2,p3⟩ hG hF K hK; (try simp [FD, exB] at hF); have ⟨hc, hf, hz⟩ := bdr hG; go_simp; exact hK _ gv
  apply cbe (D := [(28, some 0)]) rfl (by kernel_rfl)
  · intro ρ W ⟨p1,p2,p3⟩ hG hF K hK; (try simp [FD, exB] at hF); have ⟨hc, hf, hz⟩ := bdr hG; go_simp; exact hK _ gv
  apply cbe (D := [(8, none)]) rfl (by kernel_rfl)
  · intro ρ W ⟨p1,p2,p3⟩ hG hF K hK; (try simp [FD, exB] at hF); have ⟨hc, hf, hz⟩ := bdr hG; go_simp; exact hK _ gv
  apply cbe (D := [(30, some 0)]) rfl (by kernel_rfl)
  · intro ρ W ⟨p1,p2,p3⟩ hG hF K hK; (try simp [FD, exB] at hF); have ⟨hc, hf, hz⟩ := bdr hG; go_simp; exact hK _ gv
  apply cbe (D := [(6, none)]) rfl (by kernel_rfl)
  · intro ρ W ⟨p1,p2,p3⟩ hG hF K hK; (try simp [FD, exB] at hF); have ⟨hc, hf, hz⟩ := bdr hG; go_simp; exact hK _ gv
  apply cbe (D := [(32, some 0)]) rfl (by kernel_rfl)
  · intro ρ W ⟨p1,p2,p3⟩ hG hF K hK; (try simp [FD, exB] at hF); have ⟨hc, hf, hz⟩ := bdr hG; go_simp; exact hK _ gv
  apply cbe (D := [(33, some 0)]) rfl (by kernel_rfl)
  · intro ρ W ⟨p1,p2,p3⟩ hG hF K hK; (try simp [FD, exB] at hF); have ⟨hc, hf, hz⟩ := bdr hG; go_simp; exact hK _ gv
  apply cbe (D := [(31, some 3), (34, some 0)]) rfl (by kernel_rfl)
  · intro ρ W ⟨p1,p2,p3⟩ hG hF K hK; (try simp [FD, exB] at hF); have ⟨hc, hf, hz⟩ := bdr hG; go_simp; exact hK _ gv
  apply cbe (D := [(35, some 0)]) rfl (by kernel_rfl)
  · intro ρ W ⟨p1,p2,p3⟩ hG hF K hK; (try simp [FD, exB] at hF); have ⟨hc, hf, hz⟩ := bdr hG; go_simp; exact hK _ gv
  apply cbe (D := [(29, some 7), (36, some 0)]) rfl (by kernel_rfl)
  · intro ρ W ⟨p1,p2,p3⟩ hG hF K hK; (try simp [FD, exB] at hF); have ⟨hc, hf, hz⟩ := bdr hG; go_simp; exact hK _ gv
  apply cbe (D := [(2, none)]) rfl (by kernel_rfl)
  · intro ρ W ⟨p1,p2,p3⟩ hG hF K hK; (try simp [FD, exB] at hF); have ⟨hc, hf, hz⟩ := bdr hG; go_simp; exact hK _ gv
  apply cbe (D := [(38, some 0)]) rfl (by kernel_rfl)
  · intro ρ W ⟨p1,p2,p3⟩ hG hF K hK; (try simp [FD, exB] at hF); have ⟨hc, hf, hz⟩ := bdr hG; go_simp; exact hK _ gv
  apply cbe (D := [(39, some 0)]) rfl (by kernel_rfl)
  · intro ρ W ⟨p1,p2,p3⟩ hG hF K hK; (try simp [FD, exB] at hF); have ⟨hc, hf, hz⟩ := bdr hG; go_simp; exact hK _ gv
  apply cbe (D := [(37, some 3), (40, some 0)]) rfl (by kernel_rfl)
  · intro ρ W ⟨p1,p2,p3⟩ hG hF K hK; (try simp [FD, exB] at hF); have ⟨hc, hf, hz⟩ := bdr hG; go_simp; exact hK _ gv
  refine chainB_any (V := fun p v W' => NewB [.int .i64 0, .int .i64 0] 23 p v W' ∧ V2.heap.size ≤ p.1) (D := []) rfl (by kernel_rfl) (fun p v A B h hg => ⟨NewB.lasts _ _ p v A B h.1 hg, h.2⟩) ?_ ?_
  · intro ρ W ⟨p1,p2,p3⟩ hG hF K hK; (try simp [FD, exB] at hF); have ⟨hc, hf, hz⟩ := bdr hG; go_simp; exact hK _ (⟨⟨NewB.new _ _ _, by have := hG.size; simpa using this⟩, Gr.alloc _ _⟩)
  refine chainB_done ?_
  intro vs bs W hG hV hdj
  obtain ⟨e15, e14, -⟩ := hV
  simp only [Nat.reduceSub] at e14 e15
  clear hdj
  simp only [lay, Act.put, List.getElem?_toArray, List.getElem?_cons_succ, List.getElem?_cons_zero, Option.bind_some, List.setIfInBounds_toArray, List.set_cons_succ, List.set_cons_zero]
  generalize vs 0 = v0, vs 1 = v1, vs 2 = v2, vs 3 = v3, vs 4 = v4, vs 5 = v5, vs 6 = v6, vs 7 = v7, vs 8 = v8, vs 9 = v9, vs 10 = v10, vs 11 = v11, vs 12 = v12, vs 13 = v13
  generalize vs 14 = v14 at *
  generalize vs 15 = v15 at *
  subst e14
  obtain ⟨hc, hf, hz⟩ := bcell hG
  obtain ⟨⟨bo, rfl, hbo, hbo', hBo⟩, hbon⟩ := e15
  obtain ⟨y0_, y1_, yf0, yf1, yl⟩ := hBo.two
  have HO := Lib.hid hBo
  have HGW := Lib.hid hG
  have hbo2 : V2.heap.size ≤ bo := by omega
  have hos : bo ≠ bsh := by omega
  have hoq : bo ≠ bq := by omega
  have hoz : bo ≠ w.heap.size + 1 + 1 := by omega
  rw [hlo] at *
  clear hBo hbo' hG
  have HO3 := Lib.hid (show Box ((W.setCell ⟨bo, 0, none⟩ (.int .i64 lo)).setCell ⟨bo, 1, none⟩ (.int .i64 k.p.fa)) bo [.int .i64 lo, .int .i64 k.p.fa] 23 from (HO.out.put 0 (.int .i64 lo)).put 1 (.int .i64 k.p.fa))
  have HG3 := Lib.hid (show Gr V2 ((W.setCell ⟨bo, 0, none⟩ (.int .i64 lo)).setCell ⟨bo, 1, none⟩ (.int .i64 k.p.fa)) from ((show Below V2.heap.size V2 W from HGW.out).setCell hbo2 _).setCell hbo2 _)
  go_upto_region 6 with fail
  generalize ((W.setCell ⟨bo, 0, none⟩ (.int .i64 lo)).setCell ⟨bo, 1, none⟩ (.int .i64 k.p.fa)) = W3 at *
  have HZ3 := Lib.hid (HZ2.out.grow HG3.out)
  have HS3 := Lib.hid (HS2.out.grow HG3.out)
  have HQ3 := Lib.hid (HQ2.out.grow HG3.out)
  clear c5 c6 cl s0 s1 sl p0' p1' pl y0_ y1_ yf0 yf1 yl HO HGW hc hf hz HB2 HZ2 HS2 HQ2
  have s0 := HS3.out.cell (i := 0) rfl
  have s1 := HS3.out.cell (i := 1) rfl
  have sl := HS3.out.lt
  have o0 := HO3.out.cell (i := 0) rfl
  have o1 := HO3.out.cell (i := 1) rfl
  have ol := HO3.out.lt
  have HO4 := Lib.hid (show Box W3 bo [.int .i64 lo, .int .i64 hi] 23 by rw [← HHI.out]; exact HO3.out)
  have HZ4 := HZ3
  have HG4 := HG3
  go_upto_region 8 with fail
  clear o0 o1 ol s0 s1 sl
  have o0 := HO4.out.cell (i := 0) rfl
  have o1 := HO4.out.cell (i := 1) rfl
  have ol := HO4.out.lt
  have HGE := Lib.hid (Gr.tr HG2.out HG4.out)
  have z0 := HZ4.out.cell (i := 0) rfl
  have z1 := HZ4.out.cell (i := 1) rfl
  have zf := HZ4.out.free
  have zl := HZ4.out.lt
  cases c with
  | true =>
    have hc' := of_decide_eq_true hcc
    go_wp2_with fail
    exact bodyPost_ret (v := .tuple #[.agg #[.int .i64 0, .int .i64 0], .int .i64 4]) (by simp [results, Tryz.results23, go_sem, z0, z1, zl, zf]) rfl ⟨by rw [ha.out, hb.out, hz0.out]; rfl, ((show Below w.heap.size w _ from HGE.out).setCell (show w.heap.size ≤ w.heap.size + 1 + 1 by omega) _).setCell (show w.heap.size ≤ w.heap.size + 1 + 1 by omega) _⟩
  | false =>
    have hc' := of_decide_eq_false hcc
    go_wp2_with fail
    exact bodyPost_ret (v := .tuple #[.agg #[.int .i64 lo, .int .i64 hi], .int .i64 0]) (by simp [results, Tryz.results23, go_sem, z0, z1, zl, zf]) rfl ⟨by rw [ha.out, hb.out, hz0.out]; rfl, ((show Below w.heap.size w _ from HGE.out).setCell (show w.heap.size ≤ w.heap.size + 1 + 1 by omega) _).setCell (show w.heap.size ≤ w.heap.size + 1 + 1 by omega) _⟩
theorem rdepths_any (k : Cd) (u : Cu) (w : World) (hT : TsA k.p.l (.slice k.sp k.p.l.length k.cap) w) {x y z : Int} (h : k.deepA u = (x, y, z)) :
    Calls Tryz.prog 23 #[.agg k.cs.toArray, .agg #[.int .i64 u.a, .int .i64 u.b, .int .i64 u.c, .int .i64 u.d]] w fun e w' => e = .returned (.tuple #[.agg #[.int .i64 x, .int .i64 y], .int .i64 z]) ∧ Below w.heap.size w w' := by
  unfold Cd.deepA at h
  by_cases c : k.err [u] = 0
  · rw [if_pos c] at h
    obtain ⟨h1, h2, h3, h4⟩ := Cd.err_zero c
    have hroom : k.roomA u = (⟨k, 0, u⟩ : Tm).room := by unfold Cd.roomA; rw [if_pos c]
    by_cases g : (⟨k, 0, u⟩ : Tm).rhi < (⟨k, 0, u⟩ : Tm).rlo
    · have e : (⟨k, 0, u⟩ : Tm).room = (0, 0, 4) := by unfold Tm.room; rw [if_pos g]
      rw [e] at h hroom
      simp at h
      obtain ⟨rfl, rfl, rfl⟩ := h
      exact rdepths_no k u w hT 4 rfl (Lib.hid hroom)
    · have e : (⟨k, 0, u⟩ : Tm).room = ((⟨k, 0, u⟩ : Tm).rlo, (⟨k, 0, u⟩ : Tm).rhi, 0) := by unfold Tm.room; rw [if_neg g]
      rw [e] at h hroom
      simp only [if_true] at h
      have hb := k.p.bounds h1
      have hpw := k.p.pw_in h1
      have hP : k.p.power = (k.p.pw.1, k.p.pw.2, 0) := by unfold Pr.power; rw [if_pos h1, if_pos h4]
      have r0 : 0 ≤ (⟨k, 0, u⟩ : Tm).rlo := by unfold Tm.rlo imax; (repeat' split) <;> omega
      have r1 : (⟨k, 0, u⟩ : Tm).rhi ≤ 2000 := by unfold Tm.rhi imin; (repeat' split) <;> omega
      unfold Cd.deepS at h
      by_cases hx : 0 < (⟨k, 0, u⟩ : Tm).rlo
      · rw [if_pos hx] at h
        refine rdepths_pos k u w hT _ _ (Lib.hid hroom) hx ⟨r0, by omega, r1⟩ _ _ ⟨hpw.1, h4, hpw.2⟩ (Lib.hid hP) ⟨hb.ne0, by have := hb.ne1; have := hb.fa1; omega⟩ ⟨by have := hb.ne0; have := hb.ne1; omega, hb.fa1⟩ _ _ rfl rfl _ rfl x y z (Lib.hid ?_) (Lib.hid ?_) (Lib.hid ?_)
        all_goals
          by_cases g2 : imin k.p.fa (k.p.pw.1 / (⟨k, 0, u⟩ : Tm).rlo) < imax k.p.ne (k.p.pw.2 / ((⟨k, 0, u⟩ : Tm).rhi + 1) + 1)
          · rw [if_pos g2] at h; cases h; simp [g2]
          · rw [if_neg g2] at h; cases h; simp [g2]
      · rw [if_neg hx] at h
        have hx0 : (⟨k, 0, u⟩ : Tm).rlo = 0 := by omega
        rw [hx0] at hroom
        refine rdepths_nil k u w hT _ (Lib.hid hroom) ⟨by omega, by omega, r1⟩ _ _ ⟨hpw.1, h4, hpw.2⟩ (Lib.hid hP) ⟨hb.ne0, by have := hb.ne1; have := hb.fa1; omega⟩ ⟨by have := hb.ne0; have := hb.ne1; omega, hb.fa1⟩ _ _ rfl rfl _ rfl x y z (Lib.hid ?_) (Lib.hid ?_) (Lib.hid ?_)
        all_goals
          by_cases g2 : k.p.fa < imax k.p.ne (k.p.pw.2 / ((⟨k, 0, u⟩ : Tm).rhi + 1) + 1)
          · rw [if_pos g2] at h; cases h; simp [g2]
          · rw [if_neg g2] at h; cases h; simp [g2]
  · rw [if_neg c] at h
    cases h
    refine rdepths_no k u w hT _ (by simpa using c) (Lib.hid ?_)
    unfold Cd.roomA
    rw [if_neg c]
end Go.Proofs.YtcngaohfemdfjaaGreat
