import Derived.Test.YtcngaohfemdfjaaGreatE25
import Derived.Test.YtcngaohfemdfjaaGreatE26
set_option linter.unusedVariables false
set_option linter.unusedSimpArgs false
set_option maxRecDepth 100000
set_option maxHeartbeats 60000000
namespace Go.Proofs.YtcngaohfemdfjaaGreat
open Go.RowKit
theorem row30 : rowOf Tryz.prog 30 4 = true := by kernel_rfl
theorem Trim_no (k : Cd) (w : World) (hT : TsA k.p.l (.slice k.sp k.p.l.length k.cap) w) {x : Int} (hx : k.err [] = x) (h : x ≠ 0) :
    Calls Tryz.prog 25 #[.agg k.cs.toArray] w fun e w' => e = .returned (.tuple #[.agg #[.int .i64 0, .int .i64 0, .int .i64 0, .int .i64 0], .int .i64 x]) ∧ Below w.heap.size w w' := by
  have HLO := Lib.hid (fun W (hb : Below w.heap.size w W) => look0_no k W (hT.below rfl hb) hx h)
  have h0 := h
  clear hT hx h
  have hl : k.cs.length = 17 := rfl
  have HB := Lib.hid ((Box.fresh w k.cs 28).grow (Gr.alloc _ (Obj.cells #[.int .i64 0, .int .i64 0, .int .i64 0, .int .i64 0] 30)))
  have HZ := Lib.hid (Box.fresh (w.alloc (Obj.cells k.cs.toArray 28)) [.int .i64 0, .int .i64 0, .int .i64 0, .int .i64 0] 30)
  go_enter Tryz.func25, Tryz.ntmps25
  go_wp2_with (first | (with_reducible refine wsl (ty := 28) rfl ?_; unfold Stop; refine wlb row28 rfl (HB.out) rfl rfl rfl ?_))
  refine (HLO.out _ ((Gr.alloc _ _).tr (Gr.alloc _ _))).mono ?_
  rintro e w1 ⟨rfl, hb1⟩
  have hg1 : Gr w w1 := ((Gr.alloc _ _).tr (Gr.alloc _ _)).tr hb1
  have hz1 : Box w1 (w.heap.size + 1) [.int .i64 0, .int .i64 0, .int .i64 0, .int .i64 0] 30 := by simpa using HZ.out.grow hb1
  clear hb1
  obtain ⟨W2, hst, hB2, hg2⟩ := store_look w1 Cd.zero rfl zero_one
  clear hB2
  have hz2 := hz1.grow hg2
  have z0 := hz2.cell (i := 0) rfl
  have z1 := hz2.cell (i := 1) rfl
  have z2 := hz2.cell (i := 2) rfl
  have z3 := hz2.cell (i := 3) rfl
  have zf := hz2.free
  have zl := hz2.lt
  have HG := Lib.hid (hg1.tr hg2)
  clear hg1 hg2
  clear hz1
  clear hz2
  go_wp2
  exact bodyPost_ret (v := .tuple #[.agg #[.int .i64 0, .int .i64 0, .int .i64 0, .int .i64 0], .int .i64 x]) (by simp [results, Tryz.results25, go_sem, z0, z1, z2, z3, zf, zl]) rfl ⟨rfl, (((HG.out.setCell (by first | (simp <;> omega) | omega) _).setCell (by first | (simp <;> omega) | omega) _).setCell (by first | (simp <;> omega) | omega) _).setCell (by first | (simp <;> omega) | omega) _⟩
theorem Why_no (k : Cd) (w : World) (hT : TsA k.p.l (.slice k.sp k.p.l.length k.cap) w) {x : Int} (hx : k.err [] = x) (h : x ≠ 0) :
    Calls Tryz.prog 27 #[.agg k.cs.toArray] w fun e w' => e = .returned (.tuple #[.int .i64 0, .int .i64 0, .int .i64 0, .int .i64 x]) ∧ Below w.heap.size w w' := by
  have HLO := Lib.hid (fun W (hb : Below w.heap.size w W) => look0_no k W (hT.below rfl hb) hx h)
  have h0 := h
  clear hT hx h
  have hl : k.cs.length = 17 := rfl
  have HB := Lib.hid (Box.fresh w k.cs 28)
  go_enter Tryz.func27, Tryz.ntmps27
  go_wp2_with (first | (with_reducible refine wsl (ty := 28) rfl ?_; unfold Stop; refine wlb row28 rfl (HB.out) rfl rfl rfl ?_))
  refine (HLO.out _ (Gr.alloc _ _)).mono ?_
  rintro e w1 ⟨rfl, hb1⟩
  have hg1 : Gr w w1 := (Gr.alloc _ _).tr hb1
  clear hb1
  obtain ⟨W2, hst, hB2, hg2⟩ := store_look w1 Cd.zero rfl zero_one
  clear hB2
  have HG := Lib.hid (hg1.tr hg2)
  clear hg1 hg2
  go_wp2
  exact bodyPost_ret (v := .tuple #[.int .i64 0, .int .i64 0, .int .i64 0, .int .i64 x]) (by simp [results, Tryz.results27, go_sem]) rfl ⟨rfl, HG.out⟩
theorem Seen_no (k : Cd) (w : World) (hT : TsA k.p.l (.slice k.sp k.p.l.length k.cap) w) {x : Int} (hx : k.err [] = x) (h : x ≠ 0) :
    Calls Tryz.prog 14 #[.agg k.cs.toArray] w fun e w' => e = .returned (.tuple #[.int .i64 0, .int .i64 x]) ∧ Below w.heap.size w w' := by
  have HLO := Lib.hid (fun W (hb : Below w.heap.size w W) => look0_no k W (hT.below rfl hb) hx h)
  have h0 := h
  clear hT hx h
  have hl : k.cs.length = 17 := rfl
  have HB := Lib.hid (Box.fresh w k.cs 28)
  go_enter Tryz.func14, Tryz.ntmps14
  go_wp2_with (first | (with_reducible refine wsl (ty := 28) rfl ?_; unfold Stop; refine wlb row28 rfl (HB.out) rfl rfl rfl ?_))
  refine (HLO.out _ (Gr.alloc _ _)).mono ?_
  rintro e w1 ⟨rfl, hb1⟩
  have hg1 : Gr w w1 := (Gr.alloc _ _).tr hb1
  clear hb1
  obtain ⟨W2, hst, hB2, hg2⟩ := store_look w1 Cd.zero rfl zero_one
  clear hB2
  have HG := Lib.hid (hg1.tr hg2)
  clear hg1 hg2
  go_wp2
  exact bodyPost_ret (v := .tuple #[.int .i64 0, .int .i64 x]) (by simp [results, Tryz.results14, go_sem]) rfl ⟨rfl, HG.out⟩
theorem Trim_ok (k : Cd) (w : World) (hT : TsA k.p.l (.slice k.sp k.p.l.length k.cap) w) (h : k.err [] = 0) (hv : ∀ q ∈ k.p.sees, q.2.ok) (hlen : k.p.l.length ≤ 900) {u : Cu} (ht : k.trim = some u) :
    Calls Tryz.prog 25 #[.agg k.cs.toArray] w fun e w' => e = .returned (.tuple #[u.val, .int .i64 0]) ∧ Below w.heap.size w w' := by
  have h0 := h
  have HLO := Lib.hid (fun W (hb : Below w.heap.size w W) => look0_ok k W (hT.below rfl hb) h)
  clear hT h
  have hl : k.cs.length = 17 := rfl
  have HB := Lib.hid ((Box.fresh w k.cs 28).grow (Gr.alloc _ (Obj.cells #[.int .i64 0, .int .i64 0, .int .i64 0, .int .i64 0] 30)))
  have HZ := Lib.hid (Box.fresh (w.alloc (Obj.cells k.cs.toArray 28)) [.int .i64 0, .int .i64 0, .int .i64 0, .int .i64 0] 30)
  go_enter Tryz.func25, Tryz.ntmps25
  go_wp2_with (first | (with_reducible refine wsl (ty := 28) rfl ?_; unfold Stop; refine wlb row28 rfl (HB.out) rfl rfl rfl ?_))
  refine (HLO.out _ ((Gr.alloc _ _).tr (Gr.alloc _ _))).mono ?_
  rintro e w1 ⟨mb, rfl, hmb, hM, hb1⟩
  have hg1 : Gr w w1 := ((Gr.alloc _ _).tr (Gr.alloc _ _)).tr hb1
  have hz1 : Box w1 (w.heap.size + 1) [.int .i64 0, .int .i64 0, .int .i64 0, .int .i64 0] 30 := by simpa using HZ.out.grow hb1
  clear hb1
  obtain ⟨W2, hst, hB2, hg2⟩ := store_look w1 (k.lk mb) rfl (lk_one k mb)
  have h18 : (k.lk mb).length = 18 := rfl
  have HM := Lib.hid (hM.grow hg2)
  have HLK := Lib.hid hB2
  have hkk := (Cd.err_zero h0).2.1
  have hkp := (Cd.err_zero h0).1
  clear h0 hM hB2
  have hz2 := hz1.grow hg2
  have z0 := hz2.cell (i := 0) rfl
  have z1 := hz2.cell (i := 1) rfl
  have z2 := hz2.cell (i := 2) rfl
  have z3 := hz2.cell (i := 3) rfl
  have zf := hz2.free
  have zl := hz2.lt
  have HG := Lib.hid (hg1.tr hg2)
  clear hg1 hg2
  clear hz1
  have HV := Lib.hid hv
  clear hv
  have HTR := Lib.hid ht
  clear ht
  go_wp2_with (first | (with_reducible refine wsl (ty := 71) rfl ?_; unfold Stop; refine wlb row71 rfl (HLK.out) rfl rfl rfl ?_))
  refine (least_ok k mb hkk HV.out hlen _ HM.out).mono ?_
  rintro e3 w3 ⟨rfl, hb3⟩
  rw [HTR.out]
  simp only [Option.getD_some, Option.getD_none, Option.isSome_some, Option.isSome_none]
  have hz3 := hz2.grow hb3
  have HG3 := Lib.hid (HG.out.tr hb3)
  clear hz2 hb3 z0 z1 z2 z3 zf zl
  have z0 := hz3.cell (i := 0) rfl
  have z1 := hz3.cell (i := 1) rfl
  have z2 := hz3.cell (i := 2) rfl
  have z3 := hz3.cell (i := 3) rfl
  have zf := hz3.free
  have zl := hz3.lt
  have HZ3 := Lib.hid hz3
  clear hz3
  unfold Cu.val
  go_wp2
  exact bodyPost_ret (v := .tuple #[.agg #[.int .i64 u.a, .int .i64 u.b, .int .i64 u.c, .int .i64 u.d], .int .i64 0]) (result_row2 row30 rfl (show Box _ _ [.int .i64 u.a, .int .i64 u.b, .int .i64 u.c, .int .i64 u.d] 30 from ((((((((HZ3.out.put 0 (.int .i64 u.a)).put 1 (.int .i64 u.b)).put 2 (.int .i64 u.c)).put 3 (.int .i64 u.d)).put 0 (.int .i64 u.a)).put 1 (.int .i64 u.b)).put 2 (.int .i64 u.c)).put 3 (.int .i64 u.d))) rfl rfl rfl) rfl ⟨rfl, (((((((HG3.out.setCell (by first | (simp <;> omega) | omega) _).setCell (by first | (simp <;> omega) | omega) _).setCell (by first | (simp <;> omega) | omega) _).setCell (by first | (simp <;> omega) | omega) _).setCell (by first | (simp <;> omega) | omega) _).setCell (by first | (simp <;> omega) | omega) _).setCell (by first | (simp <;> omega) | omega) _).setCell (by first | (simp <;> omega) | omega) _⟩
theorem Trim_none (k : Cd) (w : World) (hT : TsA k.p.l (.slice k.sp k.p.l.length k.cap) w) (h : k.err [] = 0) (hv : ∀ q ∈ k.p.sees, q.2.ok) (hlen : k.p.l.length ≤ 900) (ht : k.trim = none) :
    Calls Tryz.prog 25 #[.agg k.cs.toArray] w fun e w' => e = .returned (.tuple #[.agg #[.int .i64 0, .int .i64 0, .int .i64 0, .int .i64 0], .int .i64 11]) ∧ Below w.heap.size w w' := by
  have h0 := h
  have HLO := Lib.hid (fun W (hb : Below w.heap.size w W) => look0_ok k W (hT.below rfl hb) h)
  clear hT h
  have hl : k.cs.length = 17 := rfl
  have HB := Lib.hid ((Box.fresh w k.cs 28).grow (Gr.alloc _ (Obj.cells #[.int .i64 0, .int .i64 0, .int .i64 0, .int .i64 0] 30)))
  have HZ := Lib.hid (Box.fresh (w.alloc (Obj.cells k.cs.toArray 28)) [.int .i64 0, .int .i64 0, .int .i64 0, .int .i64 0] 30)
  go_enter Tryz.func25, Tryz.ntmps25
  go_wp2_with (first | (with_reducible refine wsl (ty := 28) rfl ?_; unfold Stop; refine wlb row28 rfl (HB.out) rfl rfl rfl ?_))
  refine (HLO.out _ ((Gr.alloc _ _).tr (Gr.alloc _ _))).mono ?_
  rintro e w1 ⟨mb, rfl, hmb, hM, hb1⟩
  have hg1 : Gr w w1 := ((Gr.alloc _ _).tr (Gr.alloc _ _)).tr hb1
  have hz1 : Box w1 (w.heap.size + 1) [.int .i64 0, .int .i64 0, .int .i64 0, .int .i64 0] 30 := by simpa using HZ.out.grow hb1
  clear hb1
  obtain ⟨W2, hst, hB2, hg2⟩ := store_look w1 (k.lk mb) rfl (lk_one k mb)
  have h18 : (k.lk mb).length = 18 := rfl
  have HM := Lib.hid (hM.grow hg2)
  have HLK := Lib.hid hB2
  have hkk := (Cd.err_zero h0).2.1
  have hkp := (Cd.err_zero h0).1
  clear h0 hM hB2
  have hz2 := hz1.grow hg2
  have z0 := hz2.cell (i := 0) rfl
  have z1 := hz2.cell (i := 1) rfl
  have z2 := hz2.cell (i := 2) rfl
  have z3 := hz2.cell (i := 3) rfl
  have zf := hz2.free
  have zl := hz2.lt
  have HG := Lib.hid (hg1.tr hg2)
  clear hg1 hg2
  clear hz1
  have HV := Lib.hid hv
  clear hv
  have HTR := Lib.hid ht
  clear ht
  go_wp2_with (first | (with_reducible refine wsl (ty := 71) rfl ?_; unfold Stop; refine wlb row71 rfl (HLK.out) rfl rfl rfl ?_))
  refine (least_ok k mb hkk HV.out hlen _ HM.out).mono ?_
  rintro e3 w3 ⟨rfl, hb3⟩
  rw [HTR.out]
  simp only [Option.getD_some, Option.getD_none, Option.isSome_some, Option.isSome_none]
  have hz3 := hz2.grow hb3
  have HG3 := Lib.hid (HG.out.tr hb3)
  clear hz2 hb3 z0 z1 z2 z3 zf zl
  have z0 := hz3.cell (i := 0) rfl
  have z1 := hz3.cell (i := 1) rfl
  have z2 := hz3.cell (i := 2) rfl
  have z3 := hz3.cell (i := 3) rfl
  have zf := hz3.free
  have zl := hz3.lt
  have HZ3 := Lib.hid hz3
  clear hz3
  unfold Cu.val
  go_wp2
  exact bodyPost_ret (v := .tuple #[.agg #[.int .i64 0, .int .i64 0, .int .i64 0, .int .i64 0], .int .i64 11]) (result_row2 row30 rfl (show Box _ _ [.int .i64 0, .int .i64 0, .int .i64 0, .int .i64 0] 30 from ((((((((HZ3.out.put 0 (.int .i64 0)).put 1 (.int .i64 0)).put 2 (.int .i64 0)).put 3 (.int .i64 0)).put 0 (.int .i64 0)).put 1 (.int .i64 0)).put 2 (.int .i64 0)).put 3 (.int .i64 0))) rfl rfl rfl) rfl ⟨rfl, (((((((HG3.out.setCell (by first | (simp <;> omega) | omega) _).setCell (by first | (simp <;> omega) | omega) _).setCell (by first | (simp <;> omega) | omega) _).setCell (by first | (simp <;> omega) | omega) _).setCell (by first | (simp <;> omega) | omega) _).setCell (by first | (simp <;> omega) | omega) _).setCell (by first | (simp <;> omega) | omega) _).setCell (by first | (simp <;> omega) | omega) _⟩
theorem Why_ok (k : Cd) (w : World) (hT : TsA k.p.l (.slice k.sp k.p.l.length k.cap) w) (h : k.err [] = 0) (hv : ∀ q ∈ k.p.sees, q.2.ok) (hlen : k.p.l.length ≤ 900) {u : Cu} (ht : k.trim = some u) :
    Calls Tryz.prog 27 #[.agg k.cs.toArray] w fun e w' => e = .returned (.tuple #[.int .i64 0, .int .i64 0, .int .i64 0, .int .i64 0]) ∧ Below w.heap.size w w' := by
  have h0 := h
  have HLO := Lib.hid (fun W (hb : Below w.heap.size w W) => look0_ok k W (hT.below rfl hb) h)
  clear hT h
  have hl : k.cs.length = 17 := rfl
  have HB := Lib.hid (Box.fresh w k.cs 28)
  go_enter Tryz.func27, Tryz.ntmps27
  go_wp2_with (first | (with_reducible refine wsl (ty := 28) rfl ?_; unfold Stop; refine wlb row28 rfl (HB.out) rfl rfl rfl ?_))
  refine (HLO.out _ (Gr.alloc _ _)).mono ?_
  rintro e w1 ⟨mb, rfl, hmb, hM, hb1⟩
  have hg1 : Gr w w1 := (Gr.alloc _ _).tr hb1
  clear hb1
  obtain ⟨W2, hst, hB2, hg2⟩ := store_look w1 (k.lk mb) rfl (lk_one k mb)
  have h18 : (k.lk mb).length = 18 := rfl
  have HM := Lib.hid (hM.grow hg2)
  have HLK := Lib.hid hB2
  have hkk := (Cd.err_zero h0).2.1
  have hkp := (Cd.err_zero h0).1
  clear h0 hM hB2
  have HG := Lib.hid (hg1.tr hg2)
  clear hg1 hg2
  have HV := Lib.hid hv
  clear hv
  have HTR := Lib.hid ht
  clear ht
  go_wp2_with (first | (with_reducible refine wsl (ty := 71) rfl ?_; unfold Stop; refine wlb row71 rfl (HLK.out) rfl rfl rfl ?_))
  refine (least_ok k mb hkk HV.out hlen _ HM.out).mono ?_
  rintro e3 w3 ⟨rfl, hb3⟩
  rw [HTR.out]
  simp only [Option.getD_some, Option.getD_none, Option.isSome_some, Option.isSome_none]
  have HG3 := Lib.hid (HG.out.tr hb3)
  clear hb3
  unfold Cu.val
  go_wp2
  exact bodyPost_ret (v := .tuple #[.int .i64 0, .int .i64 0, .int .i64 0, .int .i64 0]) (by simp [results, Tryz.results27, go_sem]) rfl ⟨rfl, HG3.out.tr (Gr.alloc _ _)⟩
theorem Why_none (k : Cd) (w : World) (hT : TsA k.p.l (.slice k.sp k.p.l.length k.cap) w) (h : k.err [] = 0) (hv : ∀ q ∈ k.p.sees, q.2.ok) (hlen : k.p.l.length ≤ 900) (ht : k.trim = none) {x a b : Int} (ho : k.obst = (x, a, b)) :
    Calls Tryz.prog 27 #[.agg k.cs.toArray] w fun e w' => e = .returned (.tuple #[.int .i64 x, .int .i64 a, .int .i64 b, .int .i64 11]) ∧ Below w.heap.size w w' := by
  have h0 := h
  have HLO := Lib.hid (fun W (hb : Below w.heap.size w W) => look0_ok k W (hT.below rfl hb) h)
  clear hT h
  have hl : k.cs.length = 17 := rfl
  have HB := Lib.hid (Box.fresh w k.cs 28)
  go_enter Tryz.func27, Tryz.ntmps27
  go_wp2_with (first | (with_reducible refine wsl (ty := 28) rfl ?_; unfold Stop; refine wlb row28 rfl (HB.out) rfl rfl rfl ?_))
  refine (HLO.out _ (Gr.alloc _ _)).mono ?_
  rintro e w1 ⟨mb, rfl, hmb, hM, hb1⟩
  have hg1 : Gr w w1 := (Gr.alloc _ _).tr hb1
  clear hb1
  obtain ⟨W2, hst, hB2, hg2⟩ := store_look w1 (k.lk mb) rfl (lk_one k mb)
  have h18 : (k.lk mb).length = 18 := rfl
  have HM := Lib.hid (hM.grow hg2)
  have HLK := Lib.hid hB2
  have hkk := (Cd.err_zero h0).2.1
  have hkp := (Cd.err_zero h0).1
  clear h0 hM hB2
  have HG := Lib.hid (hg1.tr hg2)
  clear hg1 hg2
  have HV := Lib.hid hv
  clear hv
  have HTR := Lib.hid ht
  clear ht
  have HO := Lib.hid ho
  clear ho
  go_wp2_with (first | (with_reducible refine wsl (ty := 71) rfl ?_; unfold Stop; refine wlb row71 rfl (HLK.out) rfl rfl rfl ?_))
  refine (least_ok k mb hkk HV.out hlen _ HM.out).mono ?_
  rintro e3 w3 ⟨rfl, hb3⟩
  rw [HTR.out]
  simp only [Option.getD_some, Option.getD_none, Option.isSome_some, Option.isSome_none]
  have HG3 := Lib.hid (HG.out.tr hb3)
  have HL3 := Lib.hid (HLK.out.grow hb3)
  have HM3 := Lib.hid (HM.out.grow hb3)
  clear hb3
  unfold Cu.val
  go_wp2_with (first | (with_reducible refine wsl (ty := 71) rfl ?_; unfold Stop; refine wlb row71 rfl (HL3.out.grow (Gr.alloc _ _)) rfl rfl rfl ?_))
  refine (obst_ok k mb hkk HV.out hlen _ (HM3.out.grow (Gr.alloc _ _)) HO.out).mono ?_
  rintro e4 w4 ⟨rfl, hb4⟩
  have HG4 := Lib.hid ((HG3.out.tr (Gr.alloc _ _)).tr hb4)
  clear hb4
  go_wp2
  exact bodyPost_ret (v := .tuple #[.int .i64 x, .int .i64 a, .int .i64 b, .int .i64 11]) (by simp [results, Tryz.results27, go_sem]) rfl ⟨rfl, HG4.out⟩
theorem lspan_any (lo hi : Int) (w : World) :
    Calls Tryz.prog 39 #[.int .i64 lo, .int .i64 hi] w fun e w' => e = .returned (.agg #[.int .i64 lo, .int .i64 hi]) ∧ Below w.heap.size w w' := by
  go_enter Tryz.func39, Tryz.ntmps39
  go_wp2
  exact bodyPost_ret (v := .agg #[.int .i64 lo, .int .i64 hi]) (by simp [results, Tryz.results39, go_sem]) rfl ⟨rfl, ((Below.refl _ _).alloc (by first | (simp <;> omega) | omega) _)⟩
theorem lthing_any (xa xb xc xd xe xf xg xh : Int) (w : World) :
    Calls Tryz.prog 88 #[.int .i64 xa, .int .i64 xb, .int .i64 xc, .int .i64 xd, .int .i64 xe, .int .i64 xf, .int .i64 xg, .int .i64 xh] w fun e w' => e = .returned (.agg #[.int .i64 xa, .int .i64 xb, .int .i64 xc, .int .i64 xd, .int .i64 xe, .int .i64 xf, .int .i64 xg, .int .i64 xh, .int .i64 0]) ∧ Below w.heap.size w w' := by
  go_enter Tryz.func88, Tryz.ntmps88
  go_wp2_with fail
  refine (lspan_any _ _ _).mono ?_
  rintro e w1 ⟨rfl, hb1⟩
  have hg1 : Gr _ _ := hb1
  go_wp2_with fail
  refine (lspan_any _ _ _).mono ?_
  rintro e w2 ⟨rfl, hb2⟩
  have hg2 := Gr.tr hg1 hb2
  go_wp2_with fail
  refine (lspan_any _ _ _).mono ?_
  rintro e w3 ⟨rfl, hb3⟩
  have hg3 := Gr.tr hg2 hb3
  go_wp2_with fail
  refine (lspan_any _ _ _).mono ?_
  rintro e w4 ⟨rfl, hb4⟩
  have hg4 := Gr.tr hg3 hb4
  obtain ⟨hc4, hf4, hz4⟩ := bcell hg4
  go_wp2
  exact bodyPost_ret (v := .agg #[.int .i64 xa, .int .i64 xb, .int .i64 xc, .int .i64 xd, .int .i64 xe, .int .i64 xf, .int .i64 xg, .int .i64 xh, .int .i64 0]) (by simp [results, Tryz.results88, go_sem, hc4]) rfl ⟨rfl, ((((((((((bgr ((Below.refl _ _).alloc (by first | (simp <;> omega) | omega) _) (by first | (simp <;> omega) | omega) hg4).setCell (by first | (simp <;> omega) | omega) _).setCell (by first | (simp <;> omega) | omega) _).setCell (by first | (simp <;> omega) | omega) _).setCell (by first | (simp <;> omega) | omega) _).setCell (by first | (simp <;> omega) | omega) _).setCell (by first | (simp <;> omega) | omega) _).setCell (by first | (simp <;> omega) | omega) _).setCell (by first | (simp <;> omega) | omega) _).setCell (by first | (simp <;> omega) | omega) _)⟩
theorem lcuts_any (a b c d : Int) (w : World) :
    Calls Tryz.prog 42 #[.int .i64 a, .int .i64 b, .int .i64 c, .int .i64 d] w fun e w' => e = .returned (.agg #[.int .i64 a, .int .i64 b, .int .i64 c, .int .i64 d]) ∧ Below w.heap.size w w' := by
  go_enter Tryz.func42, Tryz.ntmps42
  go_wp2
  exact bodyPost_ret (v := .agg #[.int .i64 a, .int .i64 b, .int .i64 c, .int .i64 d]) (by simp [results, Tryz.results42, go_sem]) rfl ⟨rfl, ((Below.refl _ _).alloc (by first | (simp <;> omega) | omega) _)⟩
def smpC (sp : Option Addr) (cap : Nat) : Cd := ⟨smp, sp, cap, 3200, 50, 20, 6000, 6500, 300, 900, 100, 200⟩
def SmpC (w : World) (e : Ending) (w' : World) : Prop := (∃ sp cap, e = .returned (.agg (smpC sp cap).cs.toArray) ∧ TsA smp.l (.slice sp 6 cap) w') ∧ Below w.heap.size w w'
def zero28 : List Value := [.int .i64 0, .int .i64 0, .int .i64 0, .int .i64 0, .int .i64 0, .int .i64 0, .int .i64 0, .slice none 0 0, .int .i64 0, .int .i64 0, .int .i64 0, .int .i64 0, .int .i64 0, .int .i64 0, .int .i64 0, .int .i64 0, .int .i64 0]
theorem store_row {W : World} {g : Nat} {old : List Value} {T : TypeId} (hg : Box W g old T) (vs : List Value) (hl : old.length = vs.length) (h1 : vs.all (·.oneCell') = true) :
    ∃ W', (storeCells ⟨g, 0, none⟩ vs).run Tryz.prog W = .ok () W' ∧ Box W' g vs T ∧ Only g W W' := ⟨_, run_storeBox hg hl h1, hg.row, Only.row _ _⟩
theorem built28 (sp : Option Addr) : Tryz.prog.built 28 [(0, .agg #[.int .i64 9000, .int .i64 9000, .int .i64 65, .int .i64 66, .int .i64 5, .int .i64 2000, .int .i64 100000, .slice sp 6 6]), (1, .int .i64 3200), (2, .int .i64 50), (3, .int .i64 20), (4, .agg #[.int .i64 6000, .int .i64 6500]), (5, .int .i64 300), (6, .int .i64 900), (7, .int .i64 100), (8, .int .i64 200)] = some (smpC sp 6).cs.toArray := by kernel_rfl
theorem sample_any (w : World) : Calls Tryz.prog 47 #[] w (SmpC w) := by
  unfold SmpC
  go_enter Tryz.func47, Tryz.ntmps47
  go_wp2_with fail
  refine (lthing_any _ _ _ _ _ _ _ _ _).mono ?_
  rintro e w1 ⟨rfl, hb1⟩
  have hg1 : Gr _ _ := hb1
  clear hb1
  go_wp2_with fail
  refine (lthing_any _ _ _ _ _ _ _ _ _).mono ?_
  rintro e w2 ⟨rfl, hb2⟩
  have hg2 := Gr.tr hg1 hb2
  clear hb2 hg1
  go_wp2_with fail
  refine (lthing_any _ _ _ _ _ _ _ _ _).mono ?_
  rintro e w3 ⟨rfl, hb3⟩
  have hg3 := Gr.tr hg2 hb3
  clear hb3 hg2
  go_wp2_with fail
  refine (lthing_any _ _ _ _ _ _ _ _ _).mono ?_
  rintro e w4 ⟨rfl, hb4⟩
  have hg4 := Gr.tr hg3 hb4
  clear hb4 hg3
  go_wp2_with fail
  refine (lthing_any _ _ _ _ _ _ _ _ _).mono ?_
  rintro e w5 ⟨rfl, hb5⟩
  have hg5 := Gr.tr hg4 hb5
  clear hb5 hg4
  go_wp2_with fail
  refine (lthing_any _ _ _ _ _ _ _ _ _).mono ?_
  rintro e w6 ⟨rfl, hb6⟩
  have hg6 := Gr.tr hg5 hb6
  clear hb6 hg5
  obtain ⟨hc6, hf6, hz6⟩ := bcell hg6
  go_wp2_with fail
  refine (lspan_any _ _ _).mono ?_
  rintro e w7 ⟨rfl, hb7⟩
  have hB7 := (Box.fresh w6 _ _).grow hb7
  have hg7 := (hg6.tr (Gr.alloc _ _)).tr hb7
  clear hb7 hc6 hf6 hz6
  go_wp2_with fail
  refine (lspan_any _ _ _).mono ?_
  rintro e w8 ⟨rfl, hb8⟩
  have hB8 := hB7.grow hb8
  have hg8 := hg7.tr hb8
  have hw6 : w.heap.size < w6.heap.size := (bcell hg6).2.2 _ (by simp)
  clear hb8 hB7 hg7 hg6
  have HB8 := Lib.hid hB8
  have hw8 := hB8.lt
  clear hB8
  go_wp2_with fail
  have HP := Lib.hid (Box.fresh w8 [.int .i64 9000, .int .i64 9000, .int .i64 65, .int .i64 66, .int .i64 5, .int .i64 2000, .int .i64 100000, .slice (some ⟨w6.heap.size, 0, none⟩) 6 6] 26)
  have HG8 := Lib.hid hg8
  have hz28 : Box w8 w.heap.size zero28 28 := (Box.fresh w zero28 28).grow hg8
  have HZ := Lib.hid (hz28.grow (Gr.alloc w8 (Obj.cells #[.int .i64 9000, .int .i64 9000, .int .i64 65, .int .i64 66, .int .i64 5, .int .i64 2000, .int .i64 100000, .slice (some ⟨w6.heap.size, 0, none⟩) 6 6] 26)))
  clear hg8 hz28
  refine region2 3 ?_ ?_ ?_
  · kernel_rfl
  · kernel_rfl
  simp only [List.take_succ_cons, List.take_zero, List.drop_succ_cons, List.drop_zero]
  apply ceq (D := [(2, none)]) rfl (by kernel_rfl)
  · intro ρ W ⟨p1,p2,p3⟩ hG hF K hK; (try simp [FD] at hF); have ⟨hc, hf, hz⟩ := bdr hG; have hq := HP.out.grow (Gr.tr (Gr.drew _) hG); have q0 := hq.cell (i := 0) rfl; have q1 := hq.cell (i := 1) rfl; have q2 := hq.cell (i := 2) rfl; have q3 := hq.cell (i := 3) rfl; have q4 := hq.cell (i := 4) rfl; have q5 := hq.cell (i := 5) rfl; have q6 := hq.cell (i := 6) rfl; have q7 := hq.cell (i := 7) rfl; go_simp; exact hK _ gv
  apply ceq (D := []) rfl (by kernel_rfl)
  · intro ρ W ⟨p1,p2,p3⟩ hG hF K hK; (try simp [FD] at hF); have ⟨hc, hf, hz⟩ := bdr hG; go_simp; exact hK _ (gc (lspan_any _ _ _))
  apply ceq (D := [(17, some 1), (18, some 0)]) rfl (by kernel_rfl)
  · intro ρ W ⟨p1,p2,p3⟩ hG hF K hK; (try simp [FD] at hF); rw [exec_buildRow (built28 (some ⟨w6.heap.size, 0, none⟩)) rfl (by simp [hF, p1])]; exact hK _ gv
  refine cdn ?_
  intro vs W hG hV
  obtain ⟨e2, -⟩ := hV
  simp only [Nat.reduceSub] at e2
  simp only [lay, Act.put, List.getElem?_toArray, List.getElem?_cons_succ, List.getElem?_cons_zero, Option.bind_some, List.setIfInBounds_toArray, List.set_cons_succ, List.set_cons_zero]
  generalize vs 0 = v0, vs 1 = v1
  generalize vs 2 = v2 at *
  subst e2
  obtain ⟨hc, hf, hz⟩ := bcell hG
  have HG := Lib.hid hG
  have hzz := HZ.out.grow hG
  obtain ⟨W3, hst, hR3, hO3⟩ := store_row hzz (smpC (some ⟨w6.heap.size, 0, none⟩) 6).cs rfl rfl
  have h17 : (smpC (some ⟨w6.heap.size, 0, none⟩) 6).cs.length = 17 := rfl
  have HR3 := Lib.hid (show Box W3 w.heap.size (smpC (some ⟨w6.heap.size, 0, none⟩) 6).cs 28 from hR3)
  have HO3 := Lib.hid hO3
  clear hR3 hO3 hzz hG hc hf hz
  go_wp2
  refine bodyPost_ret (v := .agg (smpC (some ⟨w6.heap.size, 0, none⟩) 6).cs.toArray) (result_row row28 rfl HR3.out rfl rfl) rfl ⟨⟨_, _, rfl, ?_⟩, ?_⟩
  · refine TsA.box (l := smp.l) (T := 52) (HO3.out.box (?_ : Box W w6.heap.size _ 52) (by omega)) (by decide) rfl 6
    exact HB8.out.grow ((Gr.alloc _ _).tr HG.out)
  · exact Only.gr HO3.out (Gr.tr (Gr.alloc w _) (HG8.out.tr ((Gr.alloc _ _).tr HG.out))) (Nat.le_refl _)
end Go.Proofs.YtcngaohfemdfjaaGreat
