import Derived.Test.YtjlaoiimbhlafaaPB
set_option linter.unusedVariables false
set_option linter.unusedSimpArgs false
section
namespace Go.Proofs.Ytjlaoiimbhlafaa
open Go.RowKit Go.Shelf

open MW
attribute [local go_sem] Oper.semAt_some run_store_func
set_option maxRecDepth 100000 in
set_option maxHeartbeats 2000000 in
theorem shift_no (r : Rr) (i : Int) (w : World) (hl : MksAt r.L r.lp w) (hr : MksAt r.R r.rp w) (hok : r.ok = false) :
    Calls Try.prog 30 #[r.val, .int .i64 i] w fun e w' => e = .returned (.tuple #[.agg #[.int .i64 0, .int .i64 0], .int .i64 1]) ∧ Below w.heap.size w w' := by
  have hzl := Lk.zero.cs_len
  have HR0 := Lib.hid (show Box ((((w.alloc (Obj.cells #[.slice r.lp r.L.length r.lc, .slice r.rp r.R.length r.rc, .int .i64 r.s, .int .i64 r.t, .int .i64 r.h] 26)).alloc (Obj.cells #[.int .i64 i] 3)).alloc (Obj.cells #[.int .i64 0, .int .i64 0] 24)).alloc (Obj.cells #[.int .i64 i] 3)) w.heap.size r.cs 26 from ((((Box.fresh w r.cs 26).grow (Gr.alloc _ _)).grow (Gr.alloc _ _)).grow (Gr.alloc _ _)))
  have HI0 := Lib.hid (show Box ((((w.alloc (Obj.cells #[.slice r.lp r.L.length r.lc, .slice r.rp r.R.length r.rc, .int .i64 r.s, .int .i64 r.t, .int .i64 r.h] 26)).alloc (Obj.cells #[.int .i64 i] 3)).alloc (Obj.cells #[.int .i64 0, .int .i64 0] 24)).alloc (Obj.cells #[.int .i64 i] 3)) (w.heap.size + 1) [.int .i64 i] 3 by
    have := ((Box.fresh (w.alloc (Obj.cells r.cs.toArray 26)) [.int .i64 i] 3).grow (Gr.alloc _ (Obj.cells #[.int .i64 0, .int .i64 0] 24))).grow (Gr.alloc _ (Obj.cells #[.int .i64 i] 3))
    simpa [Rr.cs] using this)
  have HZ0 := Lib.hid (show Box ((((w.alloc (Obj.cells #[.slice r.lp r.L.length r.lc, .slice r.rp r.R.length r.rc, .int .i64 r.s, .int .i64 r.t, .int .i64 r.h] 26)).alloc (Obj.cells #[.int .i64 i] 3)).alloc (Obj.cells #[.int .i64 0, .int .i64 0] 24)).alloc (Obj.cells #[.int .i64 i] 3)) (w.heap.size + 1 + 1) [.int .i64 0, .int .i64 0] 24 by
    have := (Box.fresh ((w.alloc (Obj.cells r.cs.toArray 26)).alloc (Obj.cells #[.int .i64 i] 3)) [.int .i64 0, .int .i64 0] 24).grow (Gr.alloc _ (Obj.cells #[.int .i64 i] 3))
    simpa [Rr.cs] using this)
  have HS0 := Lib.hid (show Box ((((w.alloc (Obj.cells #[.slice r.lp r.L.length r.lc, .slice r.rp r.R.length r.rc, .int .i64 r.s, .int .i64 r.t, .int .i64 r.h] 26)).alloc (Obj.cells #[.int .i64 i] 3)).alloc (Obj.cells #[.int .i64 0, .int .i64 0] 24)).alloc (Obj.cells #[.int .i64 i] 3)) (w.heap.size + 1 + 1 + 1) [.int .i64 i] 3 by
    have := Box.fresh (((w.alloc (Obj.cells r.cs.toArray 26)).alloc (Obj.cells #[.int .i64 i] 3)).alloc (Obj.cells #[.int .i64 0, .int .i64 0] 24)) [.int .i64 i] 3
    simpa [Rr.cs] using this)
  have HLK := Lib.hid (fun W (hg : Gr w W) (hb : Box W (w.heap.size + 1 + 1 + 1) [.int .i64 i] 3) => asksL_any r (w.heap.size + 1 + 1 + 1) i 3 W (hl.grow hg) (hr.grow hg) hb)
  have HG4 := Lib.hid (show Gr w ((((w.alloc (Obj.cells #[.slice r.lp r.L.length r.lc, .slice r.rp r.R.length r.rc, .int .i64 r.s, .int .i64 r.t, .int .i64 r.h] 26)).alloc (Obj.cells #[.int .i64 i] 3)).alloc (Obj.cells #[.int .i64 0, .int .i64 0] 24)).alloc (Obj.cells #[.int .i64 i] 3)) from (((Gr.alloc _ _).tr (Gr.alloc _ _)).tr (Gr.alloc _ _)).tr (Gr.alloc _ _))
  unfold Rr.cs at HR0
  unfold Rr.val at *
  have e0 : r.asked (decide (0 ≤ (i : Int)) && decide ((i : Int) < r.L.length)) = (Lk.zero, 1) := by unfold Rr.asked; rw [hok]; rfl
  rw [e0] at HLK
  clear e0
  dsimp only at HLK
  clear hl hr
  go_enter Try.func30, Try.ntmps30
  go_wp2_with (first | (with_reducible refine wpList_stopAlloc (ty := 85) rfl ?_; unfold Stop; refine wpList_alloc85 rfl rfl ?_) | (go_at_call 54; refine (HLK.out _ HG4.out HS0.out).mono ?_; rintro e w1 ⟨rfl, hb1⟩; have HG1 := Lib.hid (HG4.out.tr hb1); have HR1 := Lib.hid (HR0.out.grow hb1); have HI1 := Lib.hid (HI0.out.grow hb1); have HZ1 := Lib.hid (HZ0.out.grow hb1); have HT := Lib.hid (Box.fresh w1 Lk.zero.cs 85); clear hb1 HR0 HI0 HZ0 HS0 HG4) | (with_reducible refine wpList_stopStore (ty := 85) rfl ?_; unfold Stop; refine wpList_storeBox row85 hzl hzl (lk_one _) HT.out rfl rfl rfl rfl ?_; have HT2 := Lib.hid (show Box ((w1.alloc (Obj.cells Lk.zero.cs.toArray 85)).setRow w1.heap.size Lk.zero.cs.toArray) w1.heap.size Lk.zero.cs 85 from HT.out.row (vs := Lk.zero.cs)); have HG2 := Lib.hid (show Gr w1 ((w1.alloc (Obj.cells Lk.zero.cs.toArray 85)).setRow w1.heap.size Lk.zero.cs.toArray) from Gr.row_new w1 _ _ _); generalize (w1.alloc (Obj.cells Lk.zero.cs.toArray 85)).setRow w1.heap.size Lk.zero.cs.toArray = w2 at *; have HR2 := Lib.hid (HR1.out.grow HG2.out); have HI2 := Lib.hid (HI1.out.grow HG2.out); have HZ2 := Lib.hid (HZ1.out.grow HG2.out); obtain ⟨z0, z1, z2, z3, -⟩ := Box.two HZ2.out; have zl := HZ2.out.lt; clear HR1 HT HI1 HZ1))
  obtain ⟨y0, y1, -, -, -⟩ := Box.two ((HZ2.out.put 0 (.int .i64 0)).put 1 (.int .i64 0))
  exact bodyPost_ret (v := .tuple #[.agg #[.int .i64 0, .int .i64 0], .int .i64 1]) (by simp [results, Try.f30, go_sem, y0, y1]) rfl ⟨rfl, ((Gr.tr HG1.out HG2.out).setCell (by first | (simp; done) | (simp; omega) | omega) _).setCell (by first | (simp; done) | (simp; omega) | omega) _⟩
set_option maxRecDepth 100000 in
set_option maxHeartbeats 2000000 in
theorem shift_mark (r : Rr) (i : Int) (w : World) (hl : MksAt r.L r.lp w) (hr : MksAt r.R r.rp w) (hok : r.ok = true) (hm : isM i r.L.length = false) :
    Calls Try.prog 30 #[r.val, .int .i64 i] w fun e w' => e = .returned (.tuple #[.agg #[.int .i64 0, .int .i64 0], .int .i64 2]) ∧ Below w.heap.size w w' := by
  have hzl := Lk.zero.cs_len
  have HR0 := Lib.hid (show Box ((((w.alloc (Obj.cells #[.slice r.lp r.L.length r.lc, .slice r.rp r.R.length r.rc, .int .i64 r.s, .int .i64 r.t, .int .i64 r.h] 26)).alloc (Obj.cells #[.int .i64 i] 3)).alloc (Obj.cells #[.int .i64 0, .int .i64 0] 24)).alloc (Obj.cells #[.int .i64 i] 3)) w.heap.size r.cs 26 from ((((Box.fresh w r.cs 26).grow (Gr.alloc _ _)).grow (Gr.alloc _ _)).grow (Gr.alloc _ _)))
  have HI0 := Lib.hid (show Box ((((w.alloc (Obj.cells #[.slice r.lp r.L.length r.lc, .slice r.rp r.R.length r.rc, .int .i64 r.s, .int .i64 r.t, .int .i64 r.h] 26)).alloc (Obj.cells #[.int .i64 i] 3)).alloc (Obj.cells #[.int .i64 0, .int .i64 0] 24)).alloc (Obj.cells #[.int .i64 i] 3)) (w.heap.size + 1) [.int .i64 i] 3 by
    have := ((Box.fresh (w.alloc (Obj.cells r.cs.toArray 26)) [.int .i64 i] 3).grow (Gr.alloc _ (Obj.cells #[.int .i64 0, .int .i64 0] 24))).grow (Gr.alloc _ (Obj.cells #[.int .i64 i] 3))
    simpa [Rr.cs] using this)
  have HZ0 := Lib.hid (show Box ((((w.alloc (Obj.cells #[.slice r.lp r.L.length r.lc, .slice r.rp r.R.length r.rc, .int .i64 r.s, .int .i64 r.t, .int .i64 r.h] 26)).alloc (Obj.cells #[.int .i64 i] 3)).alloc (Obj.cells #[.int .i64 0, .int .i64 0] 24)).alloc (Obj.cells #[.int .i64 i] 3)) (w.heap.size + 1 + 1) [.int .i64 0, .int .i64 0] 24 by
    have := (Box.fresh ((w.alloc (Obj.cells r.cs.toArray 26)).alloc (Obj.cells #[.int .i64 i] 3)) [.int .i64 0, .int .i64 0] 24).grow (Gr.alloc _ (Obj.cells #[.int .i64 i] 3))
    simpa [Rr.cs] using this)
  have HS0 := Lib.hid (show Box ((((w.alloc (Obj.cells #[.slice r.lp r.L.length r.lc, .slice r.rp r.R.length r.rc, .int .i64 r.s, .int .i64 r.t, .int .i64 r.h] 26)).alloc (Obj.cells #[.int .i64 i] 3)).alloc (Obj.cells #[.int .i64 0, .int .i64 0] 24)).alloc (Obj.cells #[.int .i64 i] 3)) (w.heap.size + 1 + 1 + 1) [.int .i64 i] 3 by
    have := Box.fresh (((w.alloc (Obj.cells r.cs.toArray 26)).alloc (Obj.cells #[.int .i64 i] 3)).alloc (Obj.cells #[.int .i64 0, .int .i64 0] 24)) [.int .i64 i] 3
    simpa [Rr.cs] using this)
  have HLK := Lib.hid (fun W (hg : Gr w W) (hb : Box W (w.heap.size + 1 + 1 + 1) [.int .i64 i] 3) => asksL_any r (w.heap.size + 1 + 1 + 1) i 3 W (hl.grow hg) (hr.grow hg) hb)
  have HG4 := Lib.hid (show Gr w ((((w.alloc (Obj.cells #[.slice r.lp r.L.length r.lc, .slice r.rp r.R.length r.rc, .int .i64 r.s, .int .i64 r.t, .int .i64 r.h] 26)).alloc (Obj.cells #[.int .i64 i] 3)).alloc (Obj.cells #[.int .i64 0, .int .i64 0] 24)).alloc (Obj.cells #[.int .i64 i] 3)) from (((Gr.alloc _ _).tr (Gr.alloc _ _)).tr (Gr.alloc _ _)).tr (Gr.alloc _ _))
  unfold Rr.cs at HR0
  unfold Rr.val at *
  have e0 : r.asked (decide (0 ≤ (i : Int)) && decide ((i : Int) < r.L.length)) = (Lk.zero, 2) := by unfold Rr.asked; rw [hok, show (decide (0 ≤ i) && decide (i < r.L.length)) = false from hm]; rfl
  rw [e0] at HLK
  clear e0
  dsimp only at HLK
  clear hl hr
  go_enter Try.func30, Try.ntmps30
  go_wp2_with (first | (with_reducible refine wpList_stopAlloc (ty := 85) rfl ?_; unfold Stop; refine wpList_alloc85 rfl rfl ?_) | (go_at_call 54; refine (HLK.out _ HG4.out HS0.out).mono ?_; rintro e w1 ⟨rfl, hb1⟩; have HG1 := Lib.hid (HG4.out.tr hb1); have HR1 := Lib.hid (HR0.out.grow hb1); have HI1 := Lib.hid (HI0.out.grow hb1); have HZ1 := Lib.hid (HZ0.out.grow hb1); have HT := Lib.hid (Box.fresh w1 Lk.zero.cs 85); clear hb1 HR0 HI0 HZ0 HS0 HG4) | (with_reducible refine wpList_stopStore (ty := 85) rfl ?_; unfold Stop; refine wpList_storeBox row85 hzl hzl (lk_one _) HT.out rfl rfl rfl rfl ?_; have HT2 := Lib.hid (show Box ((w1.alloc (Obj.cells Lk.zero.cs.toArray 85)).setRow w1.heap.size Lk.zero.cs.toArray) w1.heap.size Lk.zero.cs 85 from HT.out.row (vs := Lk.zero.cs)); have HG2 := Lib.hid (show Gr w1 ((w1.alloc (Obj.cells Lk.zero.cs.toArray 85)).setRow w1.heap.size Lk.zero.cs.toArray) from Gr.row_new w1 _ _ _); generalize (w1.alloc (Obj.cells Lk.zero.cs.toArray 85)).setRow w1.heap.size Lk.zero.cs.toArray = w2 at *; have HR2 := Lib.hid (HR1.out.grow HG2.out); have HI2 := Lib.hid (HI1.out.grow HG2.out); have HZ2 := Lib.hid (HZ1.out.grow HG2.out); obtain ⟨z0, z1, z2, z3, -⟩ := Box.two HZ2.out; have zl := HZ2.out.lt; clear HR1 HT HI1 HZ1))
  obtain ⟨y0, y1, -, -, -⟩ := Box.two ((HZ2.out.put 0 (.int .i64 0)).put 1 (.int .i64 0))
  exact bodyPost_ret (v := .tuple #[.agg #[.int .i64 0, .int .i64 0], .int .i64 2]) (by simp [results, Try.f30, go_sem, y0, y1]) rfl ⟨rfl, ((Gr.tr HG1.out HG2.out).setCell (by first | (simp; done) | (simp; omega) | omega) _).setCell (by first | (simp; done) | (simp; omega) | omega) _⟩
set_option maxRecDepth 100000 in
set_option maxHeartbeats 2000000 in
theorem shift_zero (r : Rr) (i : Int) (w : World) (hl : MksAt r.L r.lp w) (hr : MksAt r.R r.rp w) (hok : r.ok = true) (hm : isM i r.L.length = true) (hz : r.lkd.all0 = 0) :
    Calls Try.prog 30 #[r.val, .int .i64 i] w fun e w' => e = .returned (.tuple #[.agg #[.int .i64 0, .int .i64 0], .int .i64 4]) ∧ Below w.heap.size w w' := by
  have hzl := Lk.zero.cs_len
  have HR0 := Lib.hid (show Box ((((w.alloc (Obj.cells #[.slice r.lp r.L.length r.lc, .slice r.rp r.R.length r.rc, .int .i64 r.s, .int .i64 r.t, .int .i64 r.h] 26)).alloc (Obj.cells #[.int .i64 i] 3)).alloc (Obj.cells #[.int .i64 0, .int .i64 0] 24)).alloc (Obj.cells #[.int .i64 i] 3)) w.heap.size r.cs 26 from ((((Box.fresh w r.cs 26).grow (Gr.alloc _ _)).grow (Gr.alloc _ _)).grow (Gr.alloc _ _)))
  have HI0 := Lib.hid (show Box ((((w.alloc (Obj.cells #[.slice r.lp r.L.length r.lc, .slice r.rp r.R.length r.rc, .int .i64 r.s, .int .i64 r.t, .int .i64 r.h] 26)).alloc (Obj.cells #[.int .i64 i] 3)).alloc (Obj.cells #[.int .i64 0, .int .i64 0] 24)).alloc (Obj.cells #[.int .i64 i] 3)) (w.heap.size + 1) [.int .i64 i] 3 by
    have := ((Box.fresh (w.alloc (Obj.cells r.cs.toArray 26)) [.int .i64 i] 3).grow (Gr.alloc _ (Obj.cells #[.int .i64 0, .int .i64 0] 24))).grow (Gr.alloc _ (Obj.cells #[.int .i64 i] 3))
    simpa [Rr.cs] using this)
  have HZ0 := Lib.hid (show Box ((((w.alloc (Obj.cells #[.slice r.lp r.L.length r.lc, .slice r.rp r.R.length r.rc, .int .i64 r.s, .int .i64 r.t, .int .i64 r.h] 26)).alloc (Obj.cells #[.int .i64 i] 3)).alloc (Obj.cells #[.int .i64 0, .int .i64 0] 24)).alloc (Obj.cells #[.int .i64 i] 3)) (w.heap.size + 1 + 1) [.int .i64 0, .int .i64 0] 24 by
    have := (Box.fresh ((w.alloc (Obj.cells r.cs.toArray 26)).alloc (Obj.cells #[.int .i64 i] 3)) [.int .i64 0, .int .i64 0] 24).grow (Gr.alloc _ (Obj.cells #[.int .i64 i] 3))
    simpa [Rr.cs] using this)
  have HS0 := Lib.hid (show Box ((((w.alloc (Obj.cells #[.slice r.lp r.L.length r.lc, .slice r.rp r.R.length r.rc, .int .i64 r.s, .int .i64 r.t, .int .i64 r.h] 26)).alloc (Obj.cells #[.int .i64 i] 3)).alloc (Obj.cells #[.int .i64 0, .int .i64 0] 24)).alloc (Obj.cells #[.int .i64 i] 3)) (w.heap.size + 1 + 1 + 1) [.int .i64 i] 3 by
    have := Box.fresh (((w.alloc (Obj.cells r.cs.toArray 26)).alloc (Obj.cells #[.int .i64 i] 3)).alloc (Obj.cells #[.int .i64 0, .int .i64 0] 24)) [.int .i64 i] 3
    simpa [Rr.cs] using this)
  have HLK := Lib.hid (fun W (hg : Gr w W) (hb : Box W (w.heap.size + 1 + 1 + 1) [.int .i64 i] 3) => asksL_any r (w.heap.size + 1 + 1 + 1) i 3 W (hl.grow hg) (hr.grow hg) hb)
  have HG4 := Lib.hid (show Gr w ((((w.alloc (Obj.cells #[.slice r.lp r.L.length r.lc, .slice r.rp r.R.length r.rc, .int .i64 r.s, .int .i64 r.t, .int .i64 r.h] 26)).alloc (Obj.cells #[.int .i64 i] 3)).alloc (Obj.cells #[.int .i64 0, .int .i64 0] 24)).alloc (Obj.cells #[.int .i64 i] 3)) from (((Gr.alloc _ _).tr (Gr.alloc _ _)).tr (Gr.alloc _ _)).tr (Gr.alloc _ _))
  unfold Rr.cs at HR0
  unfold Rr.val at *
  have e0 : r.asked (decide (0 ≤ (i : Int)) && decide ((i : Int) < r.L.length)) = (Lk.zero, 4) := by unfold Rr.asked; rw [hok, show (decide (0 ≤ i) && decide (i < r.L.length)) = true from hm]; simp [hz]
  rw [e0] at HLK
  clear e0
  dsimp only at HLK
  clear hl hr
  go_enter Try.func30, Try.ntmps30
  go_wp2_with (first | (with_reducible refine wpList_stopAlloc (ty := 85) rfl ?_; unfold Stop; refine wpList_alloc85 rfl rfl ?_) | (go_at_call 54; refine (HLK.out _ HG4.out HS0.out).mono ?_; rintro e w1 ⟨rfl, hb1⟩; have HG1 := Lib.hid (HG4.out.tr hb1); have HR1 := Lib.hid (HR0.out.grow hb1); have HI1 := Lib.hid (HI0.out.grow hb1); have HZ1 := Lib.hid (HZ0.out.grow hb1); have HT := Lib.hid (Box.fresh w1 Lk.zero.cs 85); clear hb1 HR0 HI0 HZ0 HS0 HG4) | (with_reducible refine wpList_stopStore (ty := 85) rfl ?_; unfold Stop; refine wpList_storeBox row85 hzl hzl (lk_one _) HT.out rfl rfl rfl rfl ?_; have HT2 := Lib.hid (show Box ((w1.alloc (Obj.cells Lk.zero.cs.toArray 85)).setRow w1.heap.size Lk.zero.cs.toArray) w1.heap.size Lk.zero.cs 85 from HT.out.row (vs := Lk.zero.cs)); have HG2 := Lib.hid (show Gr w1 ((w1.alloc (Obj.cells Lk.zero.cs.toArray 85)).setRow w1.heap.size Lk.zero.cs.toArray) from Gr.row_new w1 _ _ _); generalize (w1.alloc (Obj.cells Lk.zero.cs.toArray 85)).setRow w1.heap.size Lk.zero.cs.toArray = w2 at *; have HR2 := Lib.hid (HR1.out.grow HG2.out); have HI2 := Lib.hid (HI1.out.grow HG2.out); have HZ2 := Lib.hid (HZ1.out.grow HG2.out); obtain ⟨z0, z1, z2, z3, -⟩ := Box.two HZ2.out; have zl := HZ2.out.lt; clear HR1 HT HI1 HZ1))
  obtain ⟨y0, y1, -, -, -⟩ := Box.two ((HZ2.out.put 0 (.int .i64 0)).put 1 (.int .i64 0))
  exact bodyPost_ret (v := .tuple #[.agg #[.int .i64 0, .int .i64 0], .int .i64 4]) (by simp [results, Try.f30, go_sem, y0, y1]) rfl ⟨rfl, ((Gr.tr HG1.out HG2.out).setCell (by first | (simp; done) | (simp; omega) | omega) _).setCell (by first | (simp; done) | (simp; omega) | omega) _⟩

end Go.Proofs.Ytjlaoiimbhlafaa
end
section
namespace Go.Proofs.Ytjlaoiimbhlafaa
open Go.RowKit Go.Shelf

open MW
attribute [local go_sem] Oper.semAt_some run_store_func
/-- The shifts for which a left mark and a right mark agree and lie within the row's own. -/
def Rr.shv (r : Rr) (i j : Nat) : Int × Int := match r.L[i]?, r.R[j]? with
  | some x, some y => r.lkd.sh x y
  | _, _ => (0, 0)
def Rr.shTo (r : Rr) (i : Nat) (l : List Nat) : En := l.foldl (fun e j => (e.put (r.shv i j).1).put (r.shv i j).2) ⟨0, 0, false⟩
theorem Rr.shTo_snoc (r : Rr) (i : Nat) (l : List Nat) (j : Nat) : r.shTo i (l ++ [j]) = ((r.shTo i l).put (r.shv i j).1).put (r.shv i j).2 := by unfold Rr.shTo; rw [List.foldl_append]; rfl
def Rr.shE (r : Rr) (i : Nat) : En := r.shTo i (wts r.R.length fun j => (r.lkd.ptn i).testBit j)
def ShI (r : Rr) (ni : Nat) (w : World) (bl be : Nat) {many : Nat} {f : Nat → Bool} (pre : List (Wt many f)) (W : World) : Prop :=
  Box W bl r.lkd.cs 85 ∧ Box W (w.heap.size + 1) [.int .i64 ni] 3 ∧ Box W (w.heap.size + 1 + 1) [.int .i64 0, .int .i64 0] 24 ∧ Box W be (r.shTo ni (pre.map Wt.v)).cs 105 ∧ Below w.heap.size w W
theorem ShI.own (r : Rr) (ni : Nat) (w : World) (bl be : Nat) {B many : Nat} {f : Nat → Bool} (hB : w.heap.size ≤ B) : OwnFrom B (ShI r ni w bl be (many := many) (f := f)) := fun s A A' row ⟨h1, h2, h3, h4, h5⟩ hg hr =>
  ⟨h1.own' hg fun r e => (hr r e).2, h2.own' hg fun r e => (hr r e).2, h3.own' hg fun r e => (hr r e).2, h4.own' hg fun r e => (hr r e).2, ownFrom_below (β := Unit) (Nat.le_refl _) hB () A A' row h5 hg hr⟩
def ShPost (r : Rr) (ni : Nat) (w : World) (e : Ending) (w' : World) : Prop := e = .returned (if (r.shE ni).s then .tuple #[.agg #[.int .i64 (r.shE ni).a, .int .i64 (r.shE ni).b], .int .i64 0] else .tuple #[.agg #[.int .i64 0, .int .i64 0], .int .i64 4]) ∧ Below w.heap.size w w'
theorem mk_cells {l : List Mrk} {p : Option Addr} {W : World} {i b o : Nat} {m : Mrk} (h : MksAt l p W) (hm : l[i]? = some m) (hp : p = some ⟨b, o, none⟩) :
    b < W.heap.size ∧ W.cell? ⟨b, o + i * 4, none⟩ = some (.int .i64 m.a) ∧ W.cell? ⟨b, o + i * 4 + 1, none⟩ = some (.int .i64 m.b) ∧ W.cell? ⟨b, o + i * 4 + 2, none⟩ = some (.int .i64 m.c) ∧ W.cell? ⟨b, o + i * 4 + 3, none⟩ = some (.int .i64 m.d) := by
  obtain ⟨b', o', h1, h2⟩ := h.2 i m hm
  rw [hp] at h1
  cases h1
  exact h2
theorem mk_at {l : List Mrk} {p : Option Addr} {W : World} {i : Nat} {m : Mrk} (h : MksAt l p W) (hm : l[i]? = some m) : ∃ b o, p = some ⟨b, o, none⟩ := by
  obtain ⟨b', o', h1, h2⟩ := h.2 i m hm
  exact ⟨b', o', h1⟩
set_option maxRecDepth 100000 in
set_option maxHeartbeats 8000000 in
theorem shift_yes (r : Rr) (ni : Nat) (w : World) (hl : MksAt r.L r.lp w) (hr : MksAt r.R r.rp w) (hok : r.ok = true) (hz : r.lkd.all0 ≠ 0) (hi : ni < r.L.length) :
    Calls Try.prog 30 #[r.val, .int .i64 ni] w (ShPost r ni w) := by
  have hzl := Lk.zero.cs_len
  have HR0 := Lib.hid (show Box ((((w.alloc (Obj.cells #[.slice r.lp r.L.length r.lc, .slice r.rp r.R.length r.rc, .int .i64 r.s, .int .i64 r.t, .int .i64 r.h] 26)).alloc (Obj.cells #[.int .i64 ni] 3)).alloc (Obj.cells #[.int .i64 0, .int .i64 0] 24)).alloc (Obj.cells #[.int .i64 ni] 3)) w.heap.size r.cs 26 from ((((Box.fresh w r.cs 26).grow (Gr.alloc _ _)).grow (Gr.alloc _ _)).grow (Gr.alloc _ _)))
  have HI0 := Lib.hid (show Box ((((w.alloc (Obj.cells #[.slice r.lp r.L.length r.lc, .slice r.rp r.R.length r.rc, .int .i64 r.s, .int .i64 r.t, .int .i64 r.h] 26)).alloc (Obj.cells #[.int .i64 ni] 3)).alloc (Obj.cells #[.int .i64 0, .int .i64 0] 24)).alloc (Obj.cells #[.int .i64 ni] 3)) (w.heap.size + 1) [.int .i64 ni] 3 by
    have := ((Box.fresh (w.alloc (Obj.cells r.cs.toArray 26)) [.int .i64 ni] 3).grow (Gr.alloc _ (Obj.cells #[.int .i64 0, .int .i64 0] 24))).grow (Gr.alloc _ (Obj.cells #[.int .i64 ni] 3))
    simpa [Rr.cs] using this)
  have HZ0 := Lib.hid (show Box ((((w.alloc (Obj.cells #[.slice r.lp r.L.length r.lc, .slice r.rp r.R.length r.rc, .int .i64 r.s, .int .i64 r.t, .int .i64 r.h] 26)).alloc (Obj.cells #[.int .i64 ni] 3)).alloc (Obj.cells #[.int .i64 0, .int .i64 0] 24)).alloc (Obj.cells #[.int .i64 ni] 3)) (w.heap.size + 1 + 1) [.int .i64 0, .int .i64 0] 24 by
    have := (Box.fresh ((w.alloc (Obj.cells r.cs.toArray 26)).alloc (Obj.cells #[.int .i64 ni] 3)) [.int .i64 0, .int .i64 0] 24).grow (Gr.alloc _ (Obj.cells #[.int .i64 ni] 3))
    simpa [Rr.cs] using this)
  have HS0 := Lib.hid (show Box ((((w.alloc (Obj.cells #[.slice r.lp r.L.length r.lc, .slice r.rp r.R.length r.rc, .int .i64 r.s, .int .i64 r.t, .int .i64 r.h] 26)).alloc (Obj.cells #[.int .i64 ni] 3)).alloc (Obj.cells #[.int .i64 0, .int .i64 0] 24)).alloc (Obj.cells #[.int .i64 ni] 3)) (w.heap.size + 1 + 1 + 1) [.int .i64 ni] 3 by
    have := Box.fresh (((w.alloc (Obj.cells r.cs.toArray 26)).alloc (Obj.cells #[.int .i64 ni] 3)).alloc (Obj.cells #[.int .i64 0, .int .i64 0] 24)) [.int .i64 ni] 3
    simpa [Rr.cs] using this)
  have HLK := Lib.hid (fun W (hg : Gr w W) (hb : Box W (w.heap.size + 1 + 1 + 1) [.int .i64 ni] 3) => asksL_any r (w.heap.size + 1 + 1 + 1) ni 3 W (hl.grow hg) (hr.grow hg) hb)
  have HG4 := Lib.hid (show Gr w ((((w.alloc (Obj.cells #[.slice r.lp r.L.length r.lc, .slice r.rp r.R.length r.rc, .int .i64 r.s, .int .i64 r.t, .int .i64 r.h] 26)).alloc (Obj.cells #[.int .i64 ni] 3)).alloc (Obj.cells #[.int .i64 0, .int .i64 0] 24)).alloc (Obj.cells #[.int .i64 ni] 3)) from (((Gr.alloc _ _).tr (Gr.alloc _ _)).tr (Gr.alloc _ _)).tr (Gr.alloc _ _))
  unfold Rr.cs at HR0
  unfold Rr.val at *
  have e0 : r.asked (decide (0 ≤ (ni : Int)) && decide ((ni : Int) < r.L.length)) = (r.lkd, 0) := by unfold Rr.asked; rw [hok, show (decide (0 ≤ (ni : Int)) && decide ((ni : Int) < r.L.length)) = true by simp; omega]; simp [hz]
  rw [e0] at HLK
  clear e0
  dsimp only at HLK
  have hkl := r.lkd.cs_len
  have HML := Lib.hid hl
  have HMR := Lib.hid hr
  have HOK := Lib.hid (Rr.lkd_ok hok)
  have hL10 : r.L.length ≤ 10 := HOK.out.nL
  have hR10 : r.R.length ≤ 10 := HOK.out.nR
  obtain ⟨-, -, hlo, hro, -⟩ := Rr.ok_parts hok
  have HLO := Lib.hid hlo
  have HRO := Lib.hid hro
  have HP := Lib.hid (fun W => partners_any r.lkd ni W HOK.out hi)
  have HPT := Lib.hid (show r.lkd.ptn ni < 2048 from Nat.lt_of_lt_of_le (gat_lt _ _) (Nat.le_trans (Nat.pow_le_pow_right (by decide) hR10) (by decide)))
  have HSE := Lib.hid (show r.shE ni = r.shTo ni (wts r.R.length fun j => (r.lkd.ptn ni).testBit j) from rfl)
  unfold ShPost
  generalize r.shE ni = se at *
  generalize hpt : r.lkd.ptn ni = pt at *
  have HMK := Lib.hid (fun W => marks_ret r.R.length (.func 68) #[.int .i64 pt] #[] W)
  clear hl hr hz hok hlo hro hpt
  refine (callsIn_wide (n := 9)).1 ?_
  refine callsIn_of_wp_marks Try.func30 rfl trivial ?_ rfl
  simp only [Try.ntmps30, List.size_toArray, List.length_cons, List.length_nil, Nat.reduceAdd, Nat.reduceSub, Array.replicate_succ, Array.replicate_zero, List.push_toArray, List.append_toArray, List.nil_append, List.cons_append]
  refine wpIn_wide.2 ?_
  go_wp2_with (first | (with_reducible refine wpList_stopAlloc (ty := 85) rfl ?_; unfold Stop; refine wpList_alloc85 rfl rfl ?_) | (go_at_call 54; refine (HLK.out _ HG4.out HS0.out).mono ?_; rintro e w1 ⟨rfl, hb1⟩; have HG1 := Lib.hid (HG4.out.tr hb1); have HR1 := Lib.hid (HR0.out.grow hb1); have HI1 := Lib.hid (HI0.out.grow hb1); have HZ1 := Lib.hid (HZ0.out.grow hb1); have HZ1lt := Lib.hid HZ1.out.lt; have HT := Lib.hid (Box.fresh w1 Lk.zero.cs 85); clear hb1 HR0 HI0 HZ0 HS0 HG4) | (with_reducible refine wpList_stopStore (ty := 85) rfl ?_; unfold Stop; refine wpList_storeBox row85 hkl hzl (lk_one _) HT.out rfl rfl rfl rfl ?_; have HT2 := Lib.hid (show Box ((w1.alloc (Obj.cells Lk.zero.cs.toArray 85)).setRow w1.heap.size r.lkd.cs.toArray) w1.heap.size r.lkd.cs 85 from HT.out.row (vs := r.lkd.cs)); have HG2 := Lib.hid (show Gr w1 ((w1.alloc (Obj.cells Lk.zero.cs.toArray 85)).setRow w1.heap.size r.lkd.cs.toArray) from Gr.row_new w1 _ _ _); generalize (w1.alloc (Obj.cells Lk.zero.cs.toArray 85)).setRow w1.heap.size r.lkd.cs.toArray = w2 at *; have HR2 := Lib.hid (HR1.out.grow HG2.out); have HI2 := Lib.hid (HI1.out.grow HG2.out); have HZ2 := Lib.hid (HZ1.out.grow HG2.out); clear HR1 HT HI1 HZ1))
  have HG3 := Lib.hid (show Gr w (w2.alloc (Obj.cells #[.int .i64 0, .int .i64 0, .bool false] 105)) from (HG1.out.tr HG2.out).tr (Gr.alloc _ _))
  have HT3 := Lib.hid (HT2.out.grow (Gr.alloc w2 (Obj.cells #[.int .i64 0, .int .i64 0, .bool false] 105)))
  have HI3 := Lib.hid (HI2.out.grow (Gr.alloc w2 (Obj.cells #[.int .i64 0, .int .i64 0, .bool false] 105)))
  have HZ3 := Lib.hid (HZ2.out.grow (Gr.alloc w2 (Obj.cells #[.int .i64 0, .int .i64 0, .bool false] 105)))
  have HE3 := Lib.hid (show Box (w2.alloc (Obj.cells #[.int .i64 0, .int .i64 0, .bool false] 105)) w2.heap.size (r.shTo ni []).cs 105 from Box.fresh w2 [.int .i64 0, .int .i64 0, .bool false] 105)
  have hbl : w1.heap.size < w2.heap.size := HT2.out.lt
  have hbz : w.heap.size + 1 + 1 < w1.heap.size := HZ1lt.out
  have hw3 : w2.heap.size < (w2.alloc (Obj.cells #[.int .i64 0, .int .i64 0, .bool false] 105)).heap.size := by simp
  clear HG1 HG2 HT2 HI2 HZ2 HR2 HLK
  generalize w2.alloc (Obj.cells #[.int .i64 0, .int .i64 0, .bool false] 105) = w3 at *
  generalize hbee : w2.heap.size = be at *
  generalize hble : w1.heap.size = bl at *
  clear hbee hble
  refine region2 9 ?_ ?_ ?_
  · kernel_rfl
  · kernel_rfl
  simp only [List.take_succ_cons, List.take_zero, List.drop_succ_cons, List.drop_zero]
  apply chain_eq (D := [(6, none)]) rfl (by kernel_rfl)
  · intro ρ W4 ⟨p1, p2, p3⟩ hG hF K hK; (try simp [FactsD] at hF); have hD := Gr.tr (Gr.drew _) hG; go_simp; exact hK _ (gives_val)
  apply chain_eq (D := [(22, some 0)]) rfl (by kernel_rfl)
  · intro ρ W4 ⟨p1, p2, p3⟩ hG hF K hK; (try simp [FactsD] at hF); have hD := Gr.tr (Gr.drew _) hG; go_simp; exact hK _ (gives_val)
  apply chain_eq (D := [(23, some 0)]) rfl (by kernel_rfl)
  · intro ρ W4 ⟨p1, p2, p3⟩ hG hF K hK; (try simp [FactsD] at hF); have hD := Gr.tr (Gr.drew _) hG; have q0 := (HT3.out.grow hD).cell r.q1; go_simp; exact hK _ (gives_val)
  apply chain_eq (D := [(24, some 0)]) rfl (by kernel_rfl)
  · intro ρ W4 ⟨p1, p2, p3⟩ hG hF K hK; (try simp [FactsD] at hF); have hD := Gr.tr (Gr.drew _) hG; go_simp; exact hK _ (gives_val)
  apply chain_eq (D := [(6, none)]) rfl (by kernel_rfl)
  · intro ρ W4 ⟨p1, p2, p3⟩ hG hF K hK; (try simp [FactsD] at hF); have hD := Gr.tr (Gr.drew _) hG; rw [exec_loadBox row85 hkl (HT3.out.grow hD) rfl hF]; exact hK _ gives_val
  apply chain_eq (D := [(3, none)]) rfl (by kernel_rfl)
  · intro ρ W4 ⟨p1, p2, p3⟩ hG hF K hK; (try simp [FactsD] at hF); have hD := Gr.tr (Gr.drew _) hG; have q0 := (HI3.out.grow hD).cell (i := 0) rfl; go_simp; exact hK _ (gives_val)
  apply chain_eq (D := [(26, some 1), (27, some 0)]) rfl (by kernel_rfl)
  · intro ρ W4 ⟨p1, p2, p3⟩ hG hF K hK; (try simp [FactsD] at hF); have hD := Gr.tr (Gr.drew _) hG; go_simp; exact hK _ (gives_call (HP.out _))
  apply chain_eq (D := [(28, some 0)]) rfl (by kernel_rfl)
  · intro ρ W4 ⟨p1, p2, p3⟩ hG hF K hK; (try simp [FactsD] at hF); have hD := Gr.tr (Gr.drew _) hG; go_simp; exact hK _ (gives_val)
  apply chain_any (V := (fun v W' => ∃ b1 b2 : Nat, v = marksV b1 b2 ∧ w3.heap.size ≤ b1 ∧ b1 < b2 ∧ Box W' b1 [.int .i64 r.R.length] 3 ∧ Box W' b2 [.func (.func 68) #[.int .i64 pt] #[]] 102)) (D := [(25, some 4), (29, some 0)]) rfl (by kernel_rfl) (fun v W W' ⟨b1, b2, h1, h2, h3, h4, h5⟩ hg => ⟨b1, b2, h1, h2, h3, h4.grow hg, h5.grow hg⟩)
  · intro ρ W4 ⟨p1, p2, p3⟩ hG hF K hK; (try simp [FactsD] at hF); have hD := Gr.tr (Gr.drew _) hG; have hW4 := hD.size; go_simp; exact hK _ (gives_rel ((HMK.out _).mono fun e W' ⟨h1, h2, h3, h4⟩ => ⟨⟨_, h1, _, _, rfl, by omega, Nat.lt_succ_self _, h2, h3⟩, h4⟩))
  refine chain_done ?_
  intro vs W4 hG hV
  obtain ⟨e8, -⟩ := hV
  simp only [Nat.reduceSub] at e8
  simp only [lay, Act.put, List.getElem?_toArray, List.getElem?_cons_succ, List.getElem?_cons_zero, Option.bind_some, List.setIfInBounds_toArray, List.set_cons_succ, List.set_cons_zero]
  generalize vs 0 = v0
  generalize vs 1 = v1
  generalize vs 2 = v2
  generalize vs 3 = v3
  generalize vs 4 = v4
  generalize vs 5 = v5
  generalize vs 6 = v6
  generalize vs 7 = v7
  generalize vs 8 = v8 at *
  obtain ⟨b1, b2, rfl, hbw, hb12, hm1, hm2⟩ := e8
  have hb2l := hm2.lt
  have HM1 := Lib.hid hm1
  have HM2 := Lib.hid hm2
  have HI0 := Lib.hid (show ShI r ni w bl be (many := r.R.length) (f := fun j => pt.testBit j) [] W4 from ⟨HT3.out.grow hG, HI3.out.grow hG, HZ3.out.grow hG, HE3.out.grow hG, HG3.out.tr hG⟩)
  have hw34 := hG.size
  unfold marksV
  clear HG3 HT3 HI3 HZ3 HE3 hm1 hm2 hG
  go_wp2_with fail
  refine (wpIn_wide (n := 9)).1 ?_
  refine wpIn_rangeOwn rfl (by omega) (gf := 107) (lb := #[.pointer (some ⟨b1, 0, none⟩), .pointer (some ⟨b2, 0, none⟩)]) rfl trivial (enters_of Try.func107 (by kernel_rfl) rfl)
    (SeqStopsK.own (marksH_stops pt r.R.length (fun j => pt.testBit j) [] b1 b2 _ W4 (by omega) (fun W' _ j hj => has_any pt j W' HPT.out (by omega)) HM1.out HM2.out)) (Gr.same _) KeepAt.trans
    (fun W o' => KeepAt.putObj W _ o' (by simp; omega)) (fun _ => rfl)
    (ShI r ni w bl be) (fun _ _ _ => False) (ShI.own r ni w bl be (by omega)) (fun _ _ _ _ _ hs _ _ => hs) HI0.out
    (fun x a' W => a' = { tmps := #[.agg #[.slice r.lp r.L.length r.lc, .slice r.rp r.R.length r.rc, .int .i64 r.s, .int .i64 r.t, .int .i64 r.h], .int .i64 ni, .pointer (some ⟨w.heap.size, 0, none⟩), .pointer (some ⟨w.heap.size + 1, 0, none⟩), .pointer (some ⟨w.heap.size + 1 + 1, 0, none⟩), .int .i64 0, .pointer (some ⟨bl, 0, none⟩), .int .i64 0, .pointer (some ⟨be, 0, none⟩), .int .i64 x.v, undef, .tuple #[.agg r.lkd.cs.toArray, .int .i64 0], .agg #[.slice r.lp r.L.length r.lc, .slice r.rp r.R.length r.rc, .int .i64 r.s, .int .i64 r.t, .int .i64 r.h], .int .i64 ni, .slice (some ⟨w.heap.size + 1 + 1 + 1, 0, none⟩) 1 1, .tuple #[.agg r.lkd.cs.toArray, .int .i64 0], .agg r.lkd.cs.toArray, .int .i64 0, .int .i64 0, .bool false, undef, undef, v0, v1, v2, v3, v4, v5, v6, v7, .func (.func 107) #[] #[.pointer (some ⟨b1, 0, none⟩), .pointer (some ⟨b2, 0, none⟩)], .int .i64 x.v, undef, undef, undef, undef, undef, undef, undef, undef, undef, undef, undef, undef, undef, undef, undef, undef, undef, undef, undef, undef, undef, undef, undef, undef, undef, undef, undef, undef, undef], defers := [] }) (fun x a' => fun _ _ _ _ h _ _ => h) ?assign ?body ?done ?stop
  case assign =>
    intro y pre x W K hi hK
    have HI := Lib.hid hi
    clear hi
    unfold encW
    gi_wp2
    exact hK _ _ (KeepsOthers.refl _ |>.from _) (KeepAt.refl _ _) HI.out rfl
  case body =>
    rintro y pre x a' W hyl - ⟨h0, h1, h2, h3, hBW⟩ rfl hN
    have H0 := Lib.hid h0
    have H1 := Lib.hid h1
    have H2 := Lib.hid h2
    have H3 := Lib.hid h3
    have HBW := Lib.hid hBW
    have hx := x.lt
    have HTK := Lib.hid (fun (e : En) (p q : Int) (b : Nat) (W : World) (he : Box W be e.cs 105) (hb : Box W b [.int .i64 p, .int .i64 q] 3) (hne : b ≠ be) => (show Calls Try.prog 70 #[.pointer (some ⟨be, 0, none⟩), .slice (some ⟨b, 0, none⟩) 2 2] W (fun r w' => r = .returned (.tuple #[]) ∧ Box w' be ((e.put p).put q).cs 105 ∧ Only be W w') from take_any be b 0 2 e [p, q] W he hb.lt hne (by simp) (fun j hj => by
      have : j = 0 ∨ j = 1 := by simp at hj; omega
      rcases this with rfl | rfl
      · exact hb.cell (i := 0) rfl
      · exact hb.cell (i := 1) rfl)))
    obtain ⟨xm, hxm⟩ : ∃ xm, r.L[ni]? = some xm := ⟨r.L[ni], List.getElem?_eq_getElem hi⟩
    obtain ⟨ym, hym⟩ : ∃ ym, r.R[x.v]? = some ym := ⟨r.R[x.v], List.getElem?_eq_getElem hx⟩
    have HXM := Lib.hid hxm
    have HYM := Lib.hid hym
    obtain ⟨bL, oL, hlp⟩ := mk_at HML.out hxm
    obtain ⟨bR, oR, hrp⟩ := mk_at HMR.out hym
    have HSH := Lib.hid (fun W => shift_any r.lkd xm ym W (Mrk.in_of_ok (HLO.out xm (List.mem_of_getElem? hxm))) (Mrk.in_of_ok (HRO.out ym (List.mem_of_getElem? hym))))
    have hsv : r.lkd.sh xm ym = r.shv ni x.v := by unfold Rr.shv; rw [hxm, hym]
    rw [hsv] at HSH
    have hsn := r.shTo_snoc ni (pre.map Wt.v) x.v
    have hmp : (pre ++ [x]).map Wt.v = pre.map Wt.v ++ [x.v] := by simp
    rw [← hmp] at hsn
    have HSN := Lib.hid hsn
    have g1 : (ni : Int) < r.L.length := by omega
    have g2 : (x.v : Int) < r.R.length := by omega
    clear h0 h1 h2 h3 hBW hmp hsn hxm hym hsv
    unfold spV Mrk.val at HSH
    generalize (r.shv ni x.v).1 = p at *
    generalize (r.shv ni x.v).2 = q at *
    gi_wp2_with fail
    refine region2_in 15 ?_ ?_ ?_ ?_ ?_
    · kernel_rfl
    · kernel_rfl
    · kernel_rfl
    · rintro ⟨_, _, h⟩; exact h
    simp only [List.take_succ_cons, List.take_zero, List.drop_succ_cons, List.drop_zero]
    apply chain_eq (D := [(6, none)]) rfl (by kernel_rfl)
    · intro ρ W4 ⟨p1, p2, p3⟩ hG hF K hK; (try simp [FactsD] at hF); have hD := Gr.tr (Gr.drew _) hG; rw [exec_loadBox row85 hkl (H0.out.grow hD) rfl hF]; exact hK _ gives_val
    apply chain_eq (D := [(6, none)]) rfl (by kernel_rfl)
    · intro ρ W4 ⟨p1, p2, p3⟩ hG hF K hK; (try simp [FactsD] at hF); have hD := Gr.tr (Gr.drew _) hG; go_simp; exact hK _ (gives_val)
    apply chain_eq (D := [(33, some 0)]) rfl (by kernel_rfl)
    · intro ρ W4 ⟨p1, p2, p3⟩ hG hF K hK; (try simp [FactsD] at hF); have hD := Gr.tr (Gr.drew _) hG; go_simp; exact hK _ (gives_val)
    apply chain_eq (D := [(34, some 0)]) rfl (by kernel_rfl)
    · intro ρ W4 ⟨p1, p2, p3⟩ hG hF K hK; (try simp [FactsD] at hF); have hD := Gr.tr (Gr.drew _) hG; have q0 := (H0.out.grow hD).cell r.q0; go_simp; exact hK _ (gives_val)
    apply chain_eq (D := [(3, none)]) rfl (by kernel_rfl)
    · intro ρ W4 ⟨p1, p2, p3⟩ hG hF K hK; (try simp [FactsD] at hF); have hD := Gr.tr (Gr.drew _) hG; have q0 := (H1.out.grow hD).cell (i := 0) rfl; go_simp; exact hK _ (gives_val)
    apply chain_eq (D := [(35, some 1), (36, some 0)]) rfl (by kernel_rfl)
    · intro ρ W4 ⟨p1, p2, p3⟩ hG hF K hK; (try simp [FactsD] at hF); have hD := Gr.tr (Gr.drew _) hG; go_simp; exact hK _ (gives_val)
    apply chain_eq (D := [(37, some 0)]) rfl (by kernel_rfl)
    · intro ρ W4 ⟨p1, p2, p3⟩ hG hF K hK; (try simp [FactsD] at hF); have hD := Gr.tr (Gr.drew _) hG; obtain ⟨lb, q0, q1, q2, q3⟩ := mk_cells (HML.out.grow (Gr.tr (show Gr w W from HBW.out) hD)) HXM.out hlp; go_simp; exact hK _ (gives_val)
    apply chain_eq (D := [(6, none)]) rfl (by kernel_rfl)
    · intro ρ W4 ⟨p1, p2, p3⟩ hG hF K hK; (try simp [FactsD] at hF); have hD := Gr.tr (Gr.drew _) hG; go_simp; exact hK _ (gives_val)
    apply chain_eq (D := [(39, some 0)]) rfl (by kernel_rfl)
    · intro ρ W4 ⟨p1, p2, p3⟩ hG hF K hK; (try simp [FactsD] at hF); have hD := Gr.tr (Gr.drew _) hG; go_simp; exact hK _ (gives_val)
    apply chain_eq (D := [(40, some 0)]) rfl (by kernel_rfl)
    · intro ρ W4 ⟨p1, p2, p3⟩ hG hF K hK; (try simp [FactsD] at hF); have hD := Gr.tr (Gr.drew _) hG; have q0 := (H0.out.grow hD).cell r.q1; go_simp; exact hK _ (gives_val)
    apply chain_eq (D := [(9, none)]) rfl (by kernel_rfl)
    · intro ρ W4 ⟨p1, p2, p3⟩ hG hF K hK; (try simp [FactsD] at hF); have hD := Gr.tr (Gr.drew _) hG; go_simp; exact hK _ (gives_val)
    apply chain_eq (D := [(41, some 1), (42, some 0)]) rfl (by kernel_rfl)
    · intro ρ W4 ⟨p1, p2, p3⟩ hG hF K hK; (try simp [FactsD] at hF); have hD := Gr.tr (Gr.drew _) hG; go_simp; exact hK _ (gives_val)
    apply chain_eq (D := [(43, some 0)]) rfl (by kernel_rfl)
    · intro ρ W4 ⟨p1, p2, p3⟩ hG hF K hK; (try simp [FactsD] at hF); have hD := Gr.tr (Gr.drew _) hG; obtain ⟨lb, q0, q1, q2, q3⟩ := mk_cells (HMR.out.grow (Gr.tr (show Gr w W from HBW.out) hD)) HYM.out hrp; go_simp; exact hK _ (gives_val)
    apply chain_eq (D := [(32, some 12), (38, some 6), (44, some 0)]) rfl (by kernel_rfl)
    · intro ρ W4 ⟨p1, p2, p3⟩ hG hF K hK; (try simp [FactsD] at hF); have hD := Gr.tr (Gr.drew _) hG; go_simp; exact hK _ (gives_call (HSH.out _))
    apply chain_any (V := (fun v W' => ∃ bn : Nat, v = .pointer (some ⟨bn, 0, none⟩) ∧ W.heap.size ≤ bn ∧ Box W' bn [.int .i64 0, .int .i64 0] 24)) (D := []) rfl (by kernel_rfl) (fun v W W' ⟨bn, h1, h2, h3⟩ hg => ⟨bn, h1, h2, h3.grow hg⟩)
    · intro ρ W4 ⟨p1, p2, p3⟩ hG hF K hK; (try simp [FactsD] at hF); have hD := Gr.tr (Gr.drew _) hG; have hWs := hD.size; go_simp; exact hK _ ⟨⟨_, rfl, hWs, Box.fresh W4 [.int .i64 0, .int .i64 0] 24⟩, Gr.alloc _ _⟩
    refine chain_done ?_
    intro vs W5 hG hV
    obtain ⟨e14, e13, -⟩ := hV
    simp only [Nat.reduceSub] at e13 e14
    simp only [lay, Act.put, List.getElem?_toArray, List.getElem?_cons_succ, List.getElem?_cons_zero, Option.bind_some, List.setIfInBounds_toArray, List.set_cons_succ, List.set_cons_zero]
    generalize vs 0 = u0
    generalize vs 1 = u1
    generalize vs 2 = u2
    generalize vs 3 = u3
    generalize vs 4 = u4
    generalize vs 5 = u5
    generalize vs 6 = u6
    generalize vs 7 = u7
    generalize vs 8 = u8
    generalize vs 9 = u9
    generalize vs 10 = u10
    generalize vs 11 = u11
    generalize vs 12 = u12
    generalize vs 13 = u13 at *
    generalize vs 14 = u14 at *
    subst e13
    have HG := Lib.hid hG
    obtain ⟨bn, rfl, hbn, hbx⟩ := e14
    obtain ⟨z0, z1, z2, z3, -⟩ := Box.two hbx
    have zl := hbx.lt
    have hWW5 := hG.size
    have HN := Lib.hid (show Box ((W5.setCell ⟨bn, 0, none⟩ (.int .i64 p)).setCell ⟨bn, 1, none⟩ (.int .i64 q)) bn [.int .i64 p, .int .i64 q] 24 from (hbx.put 0 (.int .i64 p)).put 1 (.int .i64 q))
    have HGN := Lib.hid (show Gr W ((W5.setCell ⟨bn, 0, none⟩ (.int .i64 p)).setCell ⟨bn, 1, none⟩ (.int .i64 q)) from (Below.setCell (show Below W.heap.size W W5 from hG) (p := ⟨bn, 0, none⟩) hbn _).setCell (p := ⟨bn, 1, none⟩) hbn _)
    clear hG hbx
    go_wp2_with fail
    generalize (W5.setCell ⟨bn, 0, none⟩ (.int .i64 p)).setCell ⟨bn, 1, none⟩ (.int .i64 q) = Wn at *
    clear z0 z1 z2 z3 zl
    obtain ⟨z0, z1, -, -, -⟩ := Box.two HN.out
    have zl := HN.out.lt
    have hWn := HGN.out.size
    have HGA := Lib.hid (HGN.out.tr (Gr.alloc Wn (Obj.cells #[.int .i64 p, .int .i64 q] 3)))
    have HT7 := Lib.hid (HTK.out _ p q Wn.heap.size _ (H3.out.grow HGA.out) (Box.fresh Wn [.int .i64 p, .int .i64 q] 3) (by have := H3.out.lt; omega))
    gi_wp2_with (refine ⟨trivial, ?_⟩; gi_at_call 70; refine (CallsIn.inRound y (callsIn_wide.2 HT7.out)).mono ?_; rintro e w7 ⟨rfl, hb7, ho7⟩)
    have hbe3 := H3.out.lt
    have hbeB : be < W4.heap.size := by omega
    have hB1 := HGA.out.size
    refine ⟨?_, (KeepAt.of HGA.out).trans (KeepAt.only ho7 (by simp; omega)), ho7.box (H0.out.grow HGA.out) (by omega), ho7.box (H1.out.grow HGA.out) (by omega), ho7.box (H2.out.grow HGA.out) (by omega), ?_, (bgr HBW.out HBW.out.size HGA.out).trans (Below.mono ho7.low (by omega))⟩
    · have h1 := (keepsO HGA.out).from W4.heap.size
      have h2 := ho7.from hbeB
      exact ⟨Nat.le_trans h1.1 h2.1, fun q o hq ho hc => h2.2 q o hq (h1.2 q o hq ho hc) hc⟩
    · rw [HSN.out]
      exact hb7
  case done =>
    rintro D ys W hD hys ⟨h0, h1, h2, h3, hBW⟩ hK'
    rw [hys, ← HSE.out] at h3
    have HZ := Lib.hid h2
    have HBW := Lib.hid hBW
    have HKD := Lib.hid hK'
    obtain ⟨ea, eb, es⟩ := se
    unfold En.cs at h3
    dsimp only at h3 ⊢
    obtain ⟨q0, q1, q2⟩ := cells3 h3
    have ql := h3.lt
    obtain ⟨z0, z1, z2, z3, -⟩ := Box.two HZ.out
    have zl := HZ.out.lt
    have hDW := (Array.getElem?_eq_some_iff.1 hK').1
    have HE := Lib.hid h3
    clear h0 h1 h2 h3 hBW hK' hys HSE HI0
    cases es with
    | false =>
      go_wp2_with fail
      have HO := Lib.hid ((Only.set W (b := w.heap.size + 1 + 1) 0 (.int .i64 0)).tr (Only.set (W.setCell ⟨w.heap.size + 1 + 1, 0, none⟩ (.int .i64 0)) (b := w.heap.size + 1 + 1) 1 (.int .i64 0)))
      have hK3 := (HO.out.keep D (by omega) hDW).trans HKD.out
      have hR3 := ((HZ.out.put 0 (.int .i64 0)).put 1 (.int .i64 0)).own' (grownBy_putObj' _ D (.deferred none)) (fun r e => by cases e; exact ⟨_, hK3, rfl⟩)
      obtain ⟨y0, y1, -, -, -⟩ := Box.two hR3
      refine ⟨by simp, .inl ⟨_, _, rfl, run_takeDeferred hK3, ?_⟩⟩
      refine ⟨.tuple #[.agg #[.int .i64 0, .int .i64 0], .int .i64 4], by simp [results, Try.f30, go_sem, y0, y1], rfl, ?_⟩
      exact (HBW.out.trans (Below.mono HO.out.low (by omega))).trans (belowK_b (w := w) (Nat.le_refl _) _ D _ _ (by omega) hK3 rfl rfl)
    | true =>
      have HSP := Lib.hid (fun W => span_any ea eb W)
      unfold spV at HSP
      go_wp2_with (go_at_call 71; refine (HSP.out _).mono ?_; rintro e w5 ⟨rfl, hb5⟩; have HG5 := Lib.hid (show Gr W w5 from hb5); have HZ5 := Lib.hid (HZ.out.grow hb5); clear z0 z1 z2 z3 zl; obtain ⟨z0, z1, z2, z3, -⟩ := Box.two HZ5.out; have zl := HZ5.out.lt; clear hb5)
      have HO := Lib.hid ((Only.set w5 (b := w.heap.size + 1 + 1) 0 (.int .i64 ea)).tr (Only.set (w5.setCell ⟨w.heap.size + 1 + 1, 0, none⟩ (.int .i64 ea)) (b := w.heap.size + 1 + 1) 1 (.int .i64 eb)))
      have hK3 := (HO.out.keep D (by omega) (by have := HG5.out.size; omega)).trans ((HG5.out.block D hDW).trans HKD.out)
      have hR3 := ((HZ5.out.put 0 (.int .i64 ea)).put 1 (.int .i64 eb)).own' (grownBy_putObj' _ D (.deferred none)) (fun r e => by cases e; exact ⟨_, hK3, rfl⟩)
      obtain ⟨y0, y1, -, -, -⟩ := Box.two hR3
      refine ⟨by simp, .inl ⟨_, _, rfl, run_takeDeferred hK3, ?_⟩⟩
      refine ⟨.tuple #[.agg #[.int .i64 ea, .int .i64 eb], .int .i64 0], by simp [results, Try.f30, go_sem, y0, y1], rfl, ?_⟩
      exact ((bgr HBW.out HBW.out.size HG5.out).trans (Below.mono HO.out.low (by omega))).trans (belowK_b (w := w) (Nat.le_refl _) _ D _ _ (by omega) hK3 rfl rfl)
  case stop =>
    rintro D c pre W _ _ h _
    exact h.elim
/-- What Shift tells. -/
def Rr.shift (r : Rr) (i : Int) : Int × Int × Int := if r.ok then (if isM i r.L.length then (if r.lkd.all0 = 0 then (0, 0, 4) else if (r.shE i.toNat).s then ((r.shE i.toNat).a, (r.shE i.toNat).b, 0) else (0, 0, 4)) else (0, 0, 2)) else (0, 0, 1)
theorem Shift_any (r : Rr) (i : Int) (w : World) (hl : MksAt r.L r.lp w) (hr : MksAt r.R r.rp w) :
    Calls Try.prog 30 #[r.val, .int .i64 i] w fun e w' => e = .returned (.tuple #[.agg #[.int .i64 (r.shift i).1, .int .i64 (r.shift i).2.1], .int .i64 (r.shift i).2.2]) ∧ Below w.heap.size w w' := by
  unfold Rr.shift
  cases h : r.ok with
  | false => exact shift_no r i w hl hr h
  | true =>
    cases hm : isM i r.L.length with
    | false => exact shift_mark r i w hl hr h hm
    | true =>
      by_cases hz : r.lkd.all0 = 0
      · simp only [if_pos hz, if_true]
        exact shift_zero r i w hl hr h hm hz
      · simp only [if_neg hz, if_true]
        unfold isM at hm
        obtain ⟨ni, rfl⟩ : ∃ ni : Nat, i = ni := ⟨i.toNat, by simp at hm; omega⟩
        refine (shift_yes r ni w hl hr h hz (by simp at hm; omega)).mono ?_
        rintro e w' ⟨rfl, hb⟩
        refine ⟨?_, hb⟩
        rw [Int.toNat_natCast]
        cases (r.shE ni).s <;> rfl

end Go.Proofs.Ytjlaoiimbhlafaa
end
