import Derived.Test.YtjlaoiimbhlafaaC36
set_option linter.unusedVariables false
set_option linter.unusedSimpArgs false
namespace Go.Proofs.Ytjlaoiimbhlafaa
open Go.RowKit Go.Shelf

open MW
attribute [local go_sem] Oper.semAt_some run_store_func
set_option maxRecDepth 100000 in
set_option maxHeartbeats 2000000 in
theorem shift_no (r : Rr) (i : Int) (w : World) (hl : MksAt r.L r.lp w) (hr : MksAt r.R r.rp w) (hok : r.ok = false) :
    Calls Try.prog 30 #[r.val, .int .i64 i] w fun e w' => e = .returned (.tuple #[.agg #[.int .i64 0, .int .i64 0], .int .i64 1]) ∧ Below w.heap.size w w' := by
  have hzl := Lk.zero.cs_len
  have HR0 := Lib.hid (show Box ((((w.alloc (Obj.cells #[.slice r.lp r.L.length r.lc, .slice r.rp r.R.length r.rc, .int .i64 r.s, .int .i64 r.t, .int .i64 r.h] 26)).alloc (Obj.cells #[.int .i64 i] 3)).alloc (Obj.cells #[.int .i64 0, .int .i64 0] 24)).alloc (Obj.cells #[.int .i64 i] 3)) w.heap.size r.cs 26 from ((((Box.fresh w r.cs 26).grow (Gr.alloc _ _)).grow (Gr.alloc _ _)).grow (Gr.alloc _ _)))
  have HI0 := Lib.hid (show Box ((((w.alloc (Obj.cells #[.slice r.lp r.L.length r.lc, .slice r.rp r.R.length r.rc, .int .i64 r.s, .int .i64 r.t, .int .i64 r.h] 26)).alloc (Obj.cells #[.int .i64 i] 3)).alloc (Obj.cells #[.int .i64 0, .int .i64 0] 24)).alloc (Obj.cells #[.int .i64 i] 3)) (w.heap.size + 1) [.int .i64 i] 3 by
    have := ((Box.fresh (w.alloc (Obj.cells r.cs.toArray 26)) [.int .i64 i] 3).grow (Gr.alloc _ (Obj.cells #[.int .i64 0, .int .i64 0] 24))).grow (Gr.alloc _ (Obj.cells #[.int .i64 i] 3))
    simpa [Rr.cs] using this)
  have HZ0 := Lib.hid (show Box ((((w.alloc (Obj.cells #[.slice r.lp r.L.length r.lc, .slice r.rp r.R.length r.rc, .int .i64 r.s, .int .i64 r.t, .int .i64 r.h] 26)).alloc (Obj.cells #[.int .i64 i] 3)).alloc (Obj.cells #[.int .i64 0, .int .i64 0] 24)).alloc (Obj.cells #[.int .i64 i] 3)) (w.heap.size + 1 + 1) [.int .i64 0, .int .i64 0] 24 by
    have := (Box.fresh ((w.alloc (Obj.cells r.cs.toArray 26)).alloc (Obj.cells #[.int .i64 i] 3)) [.int .i64 0, .int .i64 0] 24).grow (Gr.alloc _ (Obj.cells #[.int .i64 i] 3))
    simpa [Rr.cs] using this)
  have HS0 := Lib.hid (show Box ((((w.alloc (Obj.cells #[.slice r.lp r.L.length r.lc, .slice r.rp r.R.length r.rc, .int .i64 r.s, .int .i64 r.t, .int .i64 r.h] 26)).alloc (Obj.cells #[.int .i64 i] 3)).alloc (Obj.cells #[.int .i64 0, .int .i64 0] 24)).alloc (Obj.cells #[.int .i64 i] 3)) (w.heap.size + 1 + 1 + 1) [.int .i64 i] 3 by
    have := Box.fresh (((w.alloc (Obj.cells r.cs.toArray 26)).alloc (Obj.cells #[.int .i64 i] 3)).alloc (Obj.cells #[.int .i64 0, .int .i64 0] 24)) [.int .i64 i] 3
    simpa [Rr.cs] using this)
  have HLK := Lib.hid (fun W (hg : Gr w W) (hb : Box W (w.heap.size + 1 + 1 + 1) [.int .i64 i] 3) => asksL_any r (w.heap.size + 1 + 1 + 1) i 3 W (hl.grow hg) (hr.grow hg) hb)
  have HG4 := Lib.hid (show Gr w ((((w.alloc (Obj.cells #[.slice r.lp r.L.length r.lc, .slice r.rp r.R.length r.rc, .int .i64 r.s, .int .i64 r.t, .int .i64 r.h] 26)).alloc (Obj.cells #[.int .i64 i] 3)).alloc (Obj.cells #[.int .i64 0, .int .i64 0] 24)).alloc (Obj.cells #[.int .i64 i] 3)) from (((Gr.alloc _ _).tr (Gr.alloc _ _)).tr (Gr.alloc _ _)).tr (Gr.alloc _ _))
  unfold Rr.cs at HR0
  unfold Rr.val at *
  have e0 : r.asked (decide (0 ≤ (i : Int)) && decide ((i : Int) < r.L.length)) = (Lk.zero, 1) := by unfold Rr.asked; rw [hok]; rfl
  rw [e0] at HLK
  clear e0
  dsimp only at HLK
  clear hl hr
  go_enter Try.func30, Try.ntmps30
  go_wp2_with (first | (with_reducible refine wpList_stopAlloc (ty := 85) rfl ?_; unfold Stop; refine wpList_alloc85 rfl rfl ?_) | (go_at_call 54; refine (HLK.out _ HG4.out HS0.out).mono ?_; rintro e w1 ⟨rfl, hb1⟩; have HG1 := Lib.hid (HG4.out.tr hb1); have HR1 := Lib.hid (HR0.out.grow hb1); have HI1 := Lib.hid (HI0.out.grow hb1); have HZ1 := Lib.hid (HZ0.out.grow hb1); have HT := Lib.hid (Box.fresh w1 Lk.zero.cs 85); clear hb1 HR0 HI0 HZ0 HS0 HG4) | (with_reducible refine wpList_stopStore (ty := 85) rfl ?_; unfold Stop; refine wpList_storeBox row85 hzl hzl (lk_one _) HT.out rfl rfl rfl rfl ?_; have HT2 := Lib.hid (show Box ((w1.alloc (Obj.cells Lk.zero.cs.toArray 85)).setRow w1.heap.size Lk.zero.cs.toArray) w1.heap.size Lk.zero.cs 85 from HT.out.row (vs := Lk.zero.cs)); have HG2 := Lib.hid (show Gr w1 ((w1.alloc (Obj.cells Lk.zero.cs.toArray 85)).setRow w1.heap.size Lk.zero.cs.toArray) from Gr.row_new w1 _ _ _); generalize (w1.alloc (Obj.cells Lk.zero.cs.toArray 85)).setRow w1.heap.size Lk.zero.cs.toArray = w2 at *; have HR2 := Lib.hid (HR1.out.grow HG2.out); have HI2 := Lib.hid (HI1.out.grow HG2.out); have HZ2 := Lib.hid (HZ1.out.grow HG2.out); obtain ⟨z0, z1, z2, z3, -⟩ := Box.two HZ2.out; have zl := HZ2.out.lt; clear HR1 HT HI1 HZ1))
  obtain ⟨y0, y1, -, -, -⟩ := Box.two ((HZ2.out.put 0 (.int .i64 0)).put 1 (.int .i64 0))
  exact bodyPost_ret (v := .tuple #[.agg #[.int .i64 0, .int .i64 0], .int .i64 1]) (by simp [results, Try.f30, go_sem, y0, y1]) rfl ⟨rfl, ((Gr.tr HG1.out HG2.out).setCell (by first | (simp; done) | (simp; omega) | omega) _).setCell (by first | (simp; done) | (simp; omega) | omega) _⟩
set_option maxRecDepth 100000 in
set_option maxHeartbeats 2000000 in
theorem shift_mark (r : Rr) (i : Int) (w : World) (hl : MksAt r.L r.lp w) (hr : MksAt r.R r.rp w) (hok : r.ok = true) (hm : isM i r.L.length = false) :
    Calls Try.prog 30 #[r.val, .int .i64 i] w fun e w' => e = .returned (.tuple #[.agg #[.int .i64 0, .int .i64 0], .int .i64 2]) ∧ Below w.heap.size w w' := by
  have hzl := Lk.zero.cs_len
  have HR0 := Lib.hid (show Box ((((w.alloc (Obj.cells #[.slice r.lp r.L.length r.lc, .slice r.rp r.R.length r.rc, .int .i64 r.s, .int .i64 r.t, .int .i64 r.h] 26)).alloc (Obj.cells #[.int .i64 i] 3)).alloc (Obj.cells #[.int .i64 0, .int .i64 0] 24)).alloc (Obj.cells #[.int .i64 i] 3)) w.heap.size r.cs 26 from ((((Box.fresh w r.cs 26).grow (Gr.alloc _ _)).grow (Gr.alloc _ _)).grow (Gr.alloc _ _)))
  have HI0 := Lib.hid (show Box ((((w.alloc (Obj.cells #[.slice r.lp r.L.length r.lc, .slice r.rp r.R.length r.rc, .int .i64 r.s, .int .i64 r.t, .int .i64 r.h] 26)).alloc (Obj.cells #[.int .i64 i] 3)).alloc (Obj.cells #[.int .i64 0, .int .i64 0] 24)).alloc (Obj.cells #[.int .i64 i] 3)) (w.heap.size + 1) [.int .i64 i] 3 by
    have := ((Box.fresh (w.alloc (Obj.cells r.cs.toArray 26)) [.int .i64 i] 3).grow (Gr.alloc _ (Obj.cells #[.int .i64 0, .int .i64 0] 24))).grow (Gr.alloc _ (Obj.cells #[.int .i64 i] 3))
    simpa [Rr.cs] using this)
  have HZ0 := Lib.hid (show Box ((((w.alloc (Obj.cells #[.slice r.lp r.L.length r.lc, .slice r.rp r.R.length r.rc, .int .i64 r.s, .int .i64 r.t, .int .i64 r.h] 26)).alloc (Obj.cells #[.int .i64 i] 3)).alloc (Obj.cells #[.int .i64 0, .int .i64 0] 24)).alloc (Obj.cells #[.int .i64 i] 3)) (w.heap.size + 1 + 1) [.int .i64 0, .int .i64 0] 24 by
    have := (Box.fresh ((w.alloc (Obj.cells r.cs.toArray 26)).alloc (Obj.cells #[.int .i64 i] 3)) [.int .i64 0, .int .i64 0] 24).grow (Gr.alloc _ (Obj.cells #[.int .i64 i] 3))
    simpa [Rr.cs] using this)
  have HS0 := Lib.hid (show Box ((((w.alloc (Obj.cells #[.slice r.lp r.L.length r.lc, .slice r.rp r.R.length r.rc, .int .i64 r.s, .int .i64 r.t, .int .i64 r.h] 26)).alloc (Obj.cells #[.int .i64 i] 3)).alloc (Obj.cells #[.int .i64 0, .int .i64 0] 24)).alloc (Obj.cells #[.int .i64 i] 3)) (w.heap.size + 1 + 1 + 1) [.int .i64 i] 3 by
    have := Box.fresh (((w.alloc (Obj.cells r.cs.toArray 26)).alloc (Obj.cells #[.int .i64 i] 3)).alloc (Obj.cells #[.int .i64 0, .int .i64 0] 24)) [.int .i64 i] 3
    simpa [Rr.cs] using this)
  have HLK := Lib.hid (fun W (hg : Gr w W) (hb : Box W (w.heap.size + 1 + 1 + 1) [.int .i64 i] 3) => asksL_any r (w.heap.size + 1 + 1 + 1) i 3 W (hl.grow hg) (hr.grow hg) hb)
  have HG4 := Lib.hid (show Gr w ((((w.alloc (Obj.cells #[.slice r.lp r.L.length r.lc, .slice r.rp r.R.length r.rc, .int .i64 r.s, .int .i64 r.t, .int .i64 r.h] 26)).alloc (Obj.cells #[.int .i64 i] 3)).alloc (Obj.cells #[.int .i64 0, .int .i64 0] 24)).alloc (Obj.cells #[.int .i64 i] 3)) from (((Gr.alloc _ _).tr (Gr.alloc _ _)).tr (Gr.alloc _ _)).tr (Gr.alloc _ _))
  unfold Rr.cs at HR0
  unfold Rr.val at *
  have e0 : r.asked (decide (0 ≤ (i : Int)) && decide ((i : Int) < r.L.length)) = (Lk.zero, 2) := by unfold Rr.asked; rw [hok, show (decide (0 ≤ i) && decide (i < r.L.length)) = false from hm]; rfl
  rw [e0] at HLK
  clear e0
  dsimp only at HLK
  clear hl hr
  go_enter Try.func30, Try.ntmps30
  go_wp2_with (first | (with_reducible refine wpList_stopAlloc (ty := 85) rfl ?_; unfold Stop; refine wpList_alloc85 rfl rfl ?_) | (go_at_call 54; refine (HLK.out _ HG4.out HS0.out).mono ?_; rintro e w1 ⟨rfl, hb1⟩; have HG1 := Lib.hid (HG4.out.tr hb1); have HR1 := Lib.hid (HR0.out.grow hb1); have HI1 := Lib.hid (HI0.out.grow hb1); have HZ1 := Lib.hid (HZ0.out.grow hb1); have HT := Lib.hid (Box.fresh w1 Lk.zero.cs 85); clear hb1 HR0 HI0 HZ0 HS0 HG4) | (with_reducible refine wpList_stopStore (ty := 85) rfl ?_; unfold Stop; refine wpList_storeBox row85 hzl hzl (lk_one _) HT.out rfl rfl rfl rfl ?_; have HT2 := Lib.hid (show Box ((w1.alloc (Obj.cells Lk.zero.cs.toArray 85)).setRow w1.heap.size Lk.zero.cs.toArray) w1.heap.size Lk.zero.cs 85 from HT.out.row (vs := Lk.zero.cs)); have HG2 := Lib.hid (show Gr w1 ((w1.alloc (Obj.cells Lk.zero.cs.toArray 85)).setRow w1.heap.size Lk.zero.cs.toArray) from Gr.row_new w1 _ _ _); generalize (w1.alloc (Obj.cells Lk.zero.cs.toArray 85)).setRow w1.heap.size Lk.zero.cs.toArray = w2 at *; have HR2 := Lib.hid (HR1.out.grow HG2.out); have HI2 := Lib.hid (HI1.out.grow HG2.out); have HZ2 := Lib.hid (HZ1.out.grow HG2.out); obtain ⟨z0, z1, z2, z3, -⟩ := Box.two HZ2.out; have zl := HZ2.out.lt; clear HR1 HT HI1 HZ1))
  obtain ⟨y0, y1, -, -, -⟩ := Box.two ((HZ2.out.put 0 (.int .i64 0)).put 1 (.int .i64 0))
  exact bodyPost_ret (v := .tuple #[.agg #[.int .i64 0, .int .i64 0], .int .i64 2]) (by simp [results, Try.f30, go_sem, y0, y1]) rfl ⟨rfl, ((Gr.tr HG1.out HG2.out).setCell (by first | (simp; done) | (simp; omega) | omega) _).setCell (by first | (simp; done) | (simp; omega) | omega) _⟩
set_option maxRecDepth 100000 in
set_option maxHeartbeats 2000000 in
theorem shift_zero (r : Rr) (i : Int) (w : World) (hl : MksAt r.L r.lp w) (hr : MksAt r.R r.rp w) (hok : r.ok = true) (hm : isM i r.L.length = true) (hz : r.lkd.all0 = 0) :
    Calls Try.prog 30 #[r.val, .int .i64 i] w fun e w' => e = .returned (.tuple #[.agg #[.int .i64 0, .int .i64 0], .int .i64 4]) ∧ Below w.heap.size w w' := by
  have hzl := Lk.zero.cs_len
  have HR0 := Lib.hid (show Box ((((w.alloc (Obj.cells #[.slice r.lp r.L.length r.lc, .slice r.rp r.R.length r.rc, .int .i64 r.s, .int .i64 r.t, .int .i64 r.h] 26)).alloc (Obj.cells #[.int .i64 i] 3)).alloc (Obj.cells #[.int .i64 0, .int .i64 0] 24)).alloc (Obj.cells #[.int .i64 i] 3)) w.heap.size r.cs 26 from ((((Box.fresh w r.cs 26).grow (Gr.alloc _ _)).grow (Gr.alloc _ _)).grow (Gr.alloc _ _)))
  have HI0 := Lib.hid (show Box ((((w.alloc (Obj.cells #[.slice r.lp r.L.length r.lc, .slice r.rp r.R.length r.rc, .int .i64 r.s, .int .i64 r.t, .int .i64 r.h] 26)).alloc (Obj.cells #[.int .i64 i] 3)).alloc (Obj.cells #[.int .i64 0, .int .i64 0] 24)).alloc (Obj.cells #[.int .i64 i] 3)) (w.heap.size + 1) [.int .i64 i] 3 by
    have := ((Box.fresh (w.alloc (Obj.cells r.cs.toArray 26)) [.int .i64 i] 3).grow (Gr.alloc _ (Obj.cells #[.int .i64 0, .int .i64 0] 24))).grow (Gr.alloc _ (Obj.cells #[.int .i64 i] 3))
    simpa [Rr.cs] using this)
  have HZ0 := Lib.hid (show Box ((((w.alloc (Obj.cells #[.slice r.lp r.L.length r.lc, .slice r.rp r.R.length r.rc, .int .i64 r.s, .int .i64 r.t, .int .i64 r.h] 26)).alloc (Obj.cells #[.int .i64 i] 3)).alloc (Obj.cells #[.int .i64 0, .int .i64 0] 24)).alloc (Obj.cells #[.int .i64 i] 3)) (w.heap.size + 1 + 1) [.int .i64 0, .int .i64 0] 24 by
    have := (Box.fresh ((w.alloc (Obj.cells r.cs.toArray 26)).alloc (Obj.cells #[.int .i64 i] 3)) [.int .i64 0, .int .i64 0] 24).grow (Gr.alloc _ (Obj.cells #[.int .i64 i] 3))
    simpa [Rr.cs] using this)
  have HS0 := Lib.hid (show Box ((((w.alloc (Obj.cells #[.slice r.lp r.L.length r.lc, .slice r.rp r.R.length r.rc, .int .i64 r.s, .int .i64 r.t, .int .i64 r.h] 26)).alloc (Obj.cells #[.int .i64 i] 3)).alloc (Obj.cells #[.int .i64 0, .int .i64 0] 24)).alloc (Obj.cells #[.int .i64 i] 3)) (w.heap.size + 1 + 1 + 1) [.int .i64 i] 3 by
    have := Box.fresh (((w.alloc (Obj.cells r.cs.toArray 26)).alloc (Obj.cells #[.int .i64 i] 3)).alloc (Obj.cells #[.int .i64 0, .int .i64 0] 24)) [.int .i64 i] 3
    simpa [Rr.cs] using this)
  have HLK := Lib.hid (fun W (hg : Gr w W) (hb : Box W (w.heap.size + 1 + 1 + 1) [.int .i64 i] 3) => asksL_any r (w.heap.size + 1 + 1 + 1) i 3 W (hl.grow hg) (hr.grow hg) hb)
  have HG4 := Lib.hid (show Gr w ((((w.alloc (Obj.cells #[.slice r.lp r.L.length r.lc, .slice r.rp r.R.length r.rc, .int .i64 r.s, .int .i64 r.t, .int .i64 r.h] 26)).alloc (Obj.cells #[.int .i64 i] 3)).alloc (Obj.cells #[.int .i64 0, .int .i64 0] 24)).alloc (Obj.cells #[.int .i64 i] 3)) from (((Gr.alloc _ _).tr (Gr.alloc _ _)).tr (Gr.alloc _ _)).tr (Gr.alloc _ _))
  unfold Rr.cs at HR0
  unfold Rr.val at *
  have e0 : r.asked (decide (0 ≤ (i : Int)) && decide ((i : Int) < r.L.length)) = (Lk.zero, 4) := by unfold Rr.asked; rw [hok, show (decide (0 ≤ i) && decide (i < r.L.length)) = true from hm]; simp [hz]
  rw [e0] at HLK
  clear e0
  dsimp only at HLK
  clear hl hr
  go_enter Try.func30, Try.ntmps30
  go_wp2_with (first | (with_reducible refine wpList_stopAlloc (ty := 85) rfl ?_; unfold Stop; refine wpList_alloc85 rfl rfl ?_) | (go_at_call 54; refine (HLK.out _ HG4.out HS0.out).mono ?_; rintro e w1 ⟨rfl, hb1⟩; have HG1 := Lib.hid (HG4.out.tr hb1); have HR1 := Lib.hid (HR0.out.grow hb1); have HI1 := Lib.hid (HI0.out.grow hb1); have HZ1 := Lib.hid (HZ0.out.grow hb1); have HT := Lib.hid (Box.fresh w1 Lk.zero.cs 85); clear hb1 HR0 HI0 HZ0 HS0 HG4) | (with_reducible refine wpList_stopStore (ty := 85) rfl ?_; unfold Stop; refine wpList_storeBox row85 hzl hzl (lk_one _) HT.out rfl rfl rfl rfl ?_; have HT2 := Lib.hid (show Box ((w1.alloc (Obj.cells Lk.zero.cs.toArray 85)).setRow w1.heap.size Lk.zero.cs.toArray) w1.heap.size Lk.zero.cs 85 from HT.out.row (vs := Lk.zero.cs)); have HG2 := Lib.hid (show Gr w1 ((w1.alloc (Obj.cells Lk.zero.cs.toArray 85)).setRow w1.heap.size Lk.zero.cs.toArray) from Gr.row_new w1 _ _ _); generalize (w1.alloc (Obj.cells Lk.zero.cs.toArray 85)).setRow w1.heap.size Lk.zero.cs.toArray = w2 at *; have HR2 := Lib.hid (HR1.out.grow HG2.out); have HI2 := Lib.hid (HI1.out.grow HG2.out); have HZ2 := Lib.hid (HZ1.out.grow HG2.out); obtain ⟨z0, z1, z2, z3, -⟩ := Box.two HZ2.out; have zl := HZ2.out.lt; clear HR1 HT HI1 HZ1))
  obtain ⟨y0, y1, -, -, -⟩ := Box.two ((HZ2.out.put 0 (.int .i64 0)).put 1 (.int .i64 0))
  exact bodyPost_ret (v := .tuple #[.agg #[.int .i64 0, .int .i64 0], .int .i64 4]) (by simp [results, Try.f30, go_sem, y0, y1]) rfl ⟨rfl, ((Gr.tr HG1.out HG2.out).setCell (by first | (simp; done) | (simp; omega) | omega) _).setCell (by first | (simp; done) | (simp; omega) | omega) _⟩

end Go.Proofs.Ytjlaoiimbhlafaa
