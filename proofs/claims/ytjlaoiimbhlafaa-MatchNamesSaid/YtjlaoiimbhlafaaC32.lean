import Derived.Test.YtjlaoiimbhlafaaC28
set_option linter.unusedVariables false
set_option linter.unusedSimpArgs false
namespace Go.Proofs.Ytjlaoiimbhlafaa
open Go.RowKit Go.Shelf

open MW
attribute [local go_sem] Oper.semAt_some run_store_func
set_option maxRecDepth 100000 in
set_option maxHeartbeats 2000000 in
theorem count_no (r : Rr) (w : World) (hl : MksAt r.L r.lp w) (hr : MksAt r.R r.rp w) (hok : r.ok = false) :
    Calls Try.prog 18 #[r.val] w fun e w' => e = .returned (.tuple #[.int .i64 0, .int .i64 1]) ∧ Below w.heap.size w w' := by
  have hzl := Lk.zero.cs_len
  have HR0 := Lib.hid (Box.fresh w r.cs 26)
  have HLK := Lib.hid (fun W (hg : Gr w W) => look_any r W (hl.grow hg) (hr.grow hg))
  unfold Rr.cs at HR0
  unfold Rr.val at *
  have e0 : r.looked = (Lk.zero, 1) := by unfold Rr.looked; rw [hok]; rfl
  rw [e0] at HLK
  clear hl hr e0
  dsimp only at HLK
  go_enter Try.func18, Try.ntmps18
  go_wp2_with (first | (with_reducible refine wpList_stopAlloc (ty := 85) rfl ?_; unfold Stop; refine wpList_alloc85 rfl rfl ?_) | (go_at_call 48; refine (HLK.out _ (Gr.alloc _ _)).mono ?_; rintro e w1 ⟨rfl, hb1⟩; have HG1 := Lib.hid (show Gr _ w1 from hb1); have HR1 := Lib.hid (HR0.out.grow hb1); have HT := Lib.hid (Box.fresh w1 Lk.zero.cs 85); clear hb1 HR0) | (with_reducible refine wpList_stopStore (ty := 85) rfl ?_; unfold Stop; refine wpList_storeBox row85 hzl hzl (lk_one _) HT.out rfl rfl rfl rfl ?_; have HT2 := Lib.hid (show Box ((w1.alloc (Obj.cells Lk.zero.cs.toArray 85)).setRow w1.heap.size Lk.zero.cs.toArray) w1.heap.size Lk.zero.cs 85 from HT.out.row (vs := Lk.zero.cs)); have HG2 := Lib.hid (show Gr w1 ((w1.alloc (Obj.cells Lk.zero.cs.toArray 85)).setRow w1.heap.size Lk.zero.cs.toArray) from Gr.row_new w1 _ _ _); generalize (w1.alloc (Obj.cells Lk.zero.cs.toArray 85)).setRow w1.heap.size Lk.zero.cs.toArray = w2 at *; have HR2 := Lib.hid (HR1.out.grow HG2.out); obtain ⟨r0, r1, r2, r3, r4⟩ := cells5 HR2.out; have rl := HR2.out.lt; clear HR1 HT))
  exact bodyPost_ret (v := .tuple #[.int .i64 0, .int .i64 1]) (by simp [results, Try.f18, go_sem]) rfl ⟨rfl, (bgr ((Below.refl _ _).alloc (by first | (simp; done) | (simp; omega) | omega) _) (by first | (simp; done) | (simp; omega) | omega) (Gr.tr HG1.out HG2.out))⟩
set_option maxRecDepth 100000 in
set_option maxHeartbeats 2000000 in
theorem count_yes (r : Rr) (w : World) (hl : MksAt r.L r.lp w) (hr : MksAt r.R r.rp w) (hok : r.ok = true) :
    Calls Try.prog 18 #[r.val] w fun e w' => e = .returned (.tuple #[.int .i64 r.lkd.all0, .int .i64 0]) ∧ Below w.heap.size w w' := by
  have hzl := Lk.zero.cs_len
  have HR0 := Lib.hid (Box.fresh w r.cs 26)
  have HLK := Lib.hid (fun W (hg : Gr w W) => look_any r W (hl.grow hg) (hr.grow hg))
  unfold Rr.cs at HR0
  unfold Rr.val at *
  have e0 : r.looked = (r.lkd, 0) := by unfold Rr.looked; rw [hok]; rfl
  rw [e0] at HLK
  clear hl hr e0
  dsimp only at HLK
  have hkl := r.lkd.cs_len
  have HOK := Lib.hid (Rr.lkd_ok hok)
  have HC := Lib.hid (fun W => count_any r.lkd r.lkd.all HOK.out.m HOK.out.r HOK.out.nL HOK.out.nR HOK.out.h W)
  have hc0 : r.lkd.wy r.lkd.all 0 0 r.lkd.h = r.lkd.all0 := rfl
  rw [hc0] at HC
  clear hc0
  go_enter Try.func18, Try.ntmps18
  go_wp2_with (first | (with_reducible refine wpList_stopAlloc (ty := 85) rfl ?_; unfold Stop; refine wpList_alloc85 rfl rfl ?_) | (go_at_call 48; refine (HLK.out _ (Gr.alloc _ _)).mono ?_; rintro e w1 ⟨rfl, hb1⟩; have HG1 := Lib.hid (show Gr _ w1 from hb1); have HR1 := Lib.hid (HR0.out.grow hb1); have HT := Lib.hid (Box.fresh w1 Lk.zero.cs 85); clear hb1 HR0) | (with_reducible refine wpList_stopStore (ty := 85) rfl ?_; unfold Stop; refine wpList_storeBox row85 hkl hzl (lk_one _) HT.out rfl rfl rfl rfl ?_; have HT2 := Lib.hid (show Box ((w1.alloc (Obj.cells Lk.zero.cs.toArray 85)).setRow w1.heap.size r.lkd.cs.toArray) w1.heap.size r.lkd.cs 85 from HT.out.row (vs := r.lkd.cs)); have HG2 := Lib.hid (show Gr w1 ((w1.alloc (Obj.cells Lk.zero.cs.toArray 85)).setRow w1.heap.size r.lkd.cs.toArray) from Gr.row_new w1 _ _ _); generalize (w1.alloc (Obj.cells Lk.zero.cs.toArray 85)).setRow w1.heap.size r.lkd.cs.toArray = w2 at *; have HR2 := Lib.hid (HR1.out.grow HG2.out); obtain ⟨r0, r1, r2, r3, r4⟩ := cells5 HR2.out; have rl := HR2.out.lt; clear HR1 HT) | (with_reducible refine wpList_stopLoad (ty := 85) rfl ?_; unfold Stop; refine wpList_loadBox row85 (r.lkd.cs_len) (HT2.out) rfl rfl rfl ?_) | (with_reducible refine wpList_stopLoad (ty := 83) rfl ?_; unfold Stop; refine wpList_loadPart row83 (opts_len r.lkd.all) (HT2.out) r.lkd.part rfl rfl rfl ?_) | (go_at_call 52; refine (HC.out _).mono ?_; rintro e w4 ⟨rfl, hb4⟩; have HG4 := Lib.hid (show Gr _ w4 from hb4); clear hb4))
  exact bodyPost_ret (v := .tuple #[.int .i64 r.lkd.all0, .int .i64 0]) (by simp [results, Try.f18, go_sem]) rfl ⟨rfl, (bgr ((Below.refl _ _).alloc (by first | (simp; done) | (simp; omega) | omega) _) (by first | (simp; done) | (simp; omega) | omega) (Gr.tr (Gr.tr HG1.out HG2.out) HG4.out))⟩
/-- What Count tells. -/
def Rr.counted (r : Rr) : Nat × Int := if r.ok then (r.lkd.all0, 0) else (0, 1)
theorem Count_any (r : Rr) (w : World) (hl : MksAt r.L r.lp w) (hr : MksAt r.R r.rp w) :
    Calls Try.prog 18 #[r.val] w fun e w' => e = .returned (.tuple #[.int .i64 (r.counted.1 : Nat), .int .i64 r.counted.2]) ∧ Below w.heap.size w w' := by
  unfold Rr.counted
  cases h : r.ok with
  | true => exact count_yes r w hl hr h
  | false => exact count_no r w hl hr h
set_option maxRecDepth 100000 in
set_option maxHeartbeats 2000000 in
theorem fits_no (r : Rr) (i j : Int) (w : World) (hl : MksAt r.L r.lp w) (hr : MksAt r.R r.rp w) (hok : r.ok = false) :
    Calls Try.prog 16 #[r.val, .int .i64 i, .int .i64 j] w fun e w' => e = .returned (.tuple #[.bool false, .int .i64 1]) ∧ Below w.heap.size w w' := by
  have hzl := Lk.zero.cs_len
  have HR0 := Lib.hid (Box.fresh w r.cs 26)
  have HLK := Lib.hid (fun W (hg : Gr w W) => look_any r W (hl.grow hg) (hr.grow hg))
  unfold Rr.cs at HR0
  unfold Rr.val at *
  have e0 : r.looked = (Lk.zero, 1) := by unfold Rr.looked; rw [hok]; rfl
  rw [e0] at HLK
  clear hl hr e0
  dsimp only at HLK
  go_enter Try.func16, Try.ntmps16
  go_wp2_with (first | (with_reducible refine wpList_stopAlloc (ty := 85) rfl ?_; unfold Stop; refine wpList_alloc85 rfl rfl ?_) | (go_at_call 48; refine (HLK.out _ (Gr.alloc _ _)).mono ?_; rintro e w1 ⟨rfl, hb1⟩; have HG1 := Lib.hid (show Gr _ w1 from hb1); have HR1 := Lib.hid (HR0.out.grow hb1); have HT := Lib.hid (Box.fresh w1 Lk.zero.cs 85); clear hb1 HR0) | (with_reducible refine wpList_stopStore (ty := 85) rfl ?_; unfold Stop; refine wpList_storeBox row85 hzl hzl (lk_one _) HT.out rfl rfl rfl rfl ?_; have HT2 := Lib.hid (show Box ((w1.alloc (Obj.cells Lk.zero.cs.toArray 85)).setRow w1.heap.size Lk.zero.cs.toArray) w1.heap.size Lk.zero.cs 85 from HT.out.row (vs := Lk.zero.cs)); have HG2 := Lib.hid (show Gr w1 ((w1.alloc (Obj.cells Lk.zero.cs.toArray 85)).setRow w1.heap.size Lk.zero.cs.toArray) from Gr.row_new w1 _ _ _); generalize (w1.alloc (Obj.cells Lk.zero.cs.toArray 85)).setRow w1.heap.size Lk.zero.cs.toArray = w2 at *; have HR2 := Lib.hid (HR1.out.grow HG2.out); obtain ⟨r0, r1, r2, r3, r4⟩ := cells5 HR2.out; have rl := HR2.out.lt; have l0 := HT2.out.lt; clear HR1 HT))
  exact bodyPost_ret (v := .tuple #[.bool false, .int .i64 1]) (by simp [results, Try.f16, go_sem]) rfl ⟨rfl, (bgr ((Below.refl _ _).alloc (by first | (simp; done) | (simp; omega) | omega) _) (by first | (simp; done) | (simp; omega) | omega) (Gr.tr HG1.out HG2.out))⟩
set_option maxRecDepth 100000 in
set_option maxHeartbeats 2000000 in
theorem fits_i (r : Rr) (i j : Int) (w : World) (hl : MksAt r.L r.lp w) (hr : MksAt r.R r.rp w) (hok : r.ok = true) (hmi : (decide (0 ≤ i) && decide (i < r.L.length)) = false) :
    Calls Try.prog 16 #[r.val, .int .i64 i, .int .i64 j] w fun e w' => e = .returned (.tuple #[.bool false, .int .i64 2]) ∧ Below w.heap.size w w' := by
  have hzl := Lk.zero.cs_len
  have HR0 := Lib.hid (Box.fresh w r.cs 26)
  have HLK := Lib.hid (fun W (hg : Gr w W) => look_any r W (hl.grow hg) (hr.grow hg))
  unfold Rr.cs at HR0
  unfold Rr.val at *
  have e0 : r.looked = (r.lkd, 0) := by unfold Rr.looked; rw [hok]; rfl
  rw [e0] at HLK
  clear hl hr e0
  dsimp only at HLK
  have hkl := r.lkd.cs_len
  have HOK := Lib.hid (Rr.lkd_ok hok)
  have HIM := Lib.hid (fun W => isMark_any i r.lp r.L.length r.lc W)
  have HJM := Lib.hid (fun W => isMark_any j r.rp r.R.length r.rc W)
  rw [hmi] at HIM
  go_enter Try.func16, Try.ntmps16
  go_wp2_with (first | (with_reducible refine wpList_stopAlloc (ty := 85) rfl ?_; unfold Stop; refine wpList_alloc85 rfl rfl ?_) | (go_at_call 48; refine (HLK.out _ (Gr.alloc _ _)).mono ?_; rintro e w1 ⟨rfl, hb1⟩; have HG1 := Lib.hid (show Gr _ w1 from hb1); have HR1 := Lib.hid (HR0.out.grow hb1); have HT := Lib.hid (Box.fresh w1 Lk.zero.cs 85); clear hb1 HR0) | (with_reducible refine wpList_stopStore (ty := 85) rfl ?_; unfold Stop; refine wpList_storeBox row85 hkl hzl (lk_one _) HT.out rfl rfl rfl rfl ?_; have HT2 := Lib.hid (show Box ((w1.alloc (Obj.cells Lk.zero.cs.toArray 85)).setRow w1.heap.size r.lkd.cs.toArray) w1.heap.size r.lkd.cs 85 from HT.out.row (vs := r.lkd.cs)); have HG2 := Lib.hid (show Gr w1 ((w1.alloc (Obj.cells Lk.zero.cs.toArray 85)).setRow w1.heap.size r.lkd.cs.toArray) from Gr.row_new w1 _ _ _); generalize (w1.alloc (Obj.cells Lk.zero.cs.toArray 85)).setRow w1.heap.size r.lkd.cs.toArray = w2 at *; have HR2 := Lib.hid (HR1.out.grow HG2.out); obtain ⟨r0, r1, r2, r3, r4⟩ := cells5 HR2.out; have rl := HR2.out.lt; have l0 := HT2.out.lt; clear HR1 HT) | (go_at_call 49; refine (HIM.out _).mono ?_; rintro e w3 ⟨rfl, hb3⟩; have HG3 := Lib.hid (show Gr _ w3 from hb3); have HR3 := Lib.hid (HR2.out.grow hb3); have HT3 := Lib.hid (HT2.out.grow hb3); clear r0 r1 r2 r3 r4 rl; obtain ⟨r0, r1, r2, r3, r4⟩ := cells5 HR3.out; have rl := HR3.out.lt; clear hb3 HIM) | (go_at_call 49; refine (HJM.out _).mono ?_; rintro e w4 ⟨rfl, hb4⟩; have HG4 := Lib.hid (show Gr _ w4 from hb4); have HT4 := Lib.hid (HT3.out.grow hb4);  clear hb4 HJM))
  exact bodyPost_ret (v := .tuple #[.bool false, .int .i64 2]) (by simp [results, Try.f16, go_sem]) rfl ⟨rfl, (bgr ((Below.refl _ _).alloc (by first | (simp; done) | (simp; omega) | omega) _) (by first | (simp; done) | (simp; omega) | omega) (Gr.tr (Gr.tr HG1.out HG2.out) HG3.out))⟩
set_option maxRecDepth 100000 in
set_option maxHeartbeats 2000000 in
theorem fits_j (r : Rr) (i j : Int) (w : World) (hl : MksAt r.L r.lp w) (hr : MksAt r.R r.rp w) (hok : r.ok = true) (hmi : (decide (0 ≤ i) && decide (i < r.L.length)) = true) (hmj : (decide (0 ≤ j) && decide (j < r.R.length)) = false) :
    Calls Try.prog 16 #[r.val, .int .i64 i, .int .i64 j] w fun e w' => e = .returned (.tuple #[.bool false, .int .i64 2]) ∧ Below w.heap.size w w' := by
  have hzl := Lk.zero.cs_len
  have HR0 := Lib.hid (Box.fresh w r.cs 26)
  have HLK := Lib.hid (fun W (hg : Gr w W) => look_any r W (hl.grow hg) (hr.grow hg))
  unfold Rr.cs at HR0
  unfold Rr.val at *
  have e0 : r.looked = (r.lkd, 0) := by unfold Rr.looked; rw [hok]; rfl
  rw [e0] at HLK
  clear hl hr e0
  dsimp only at HLK
  have hkl := r.lkd.cs_len
  have HOK := Lib.hid (Rr.lkd_ok hok)
  have HIM := Lib.hid (fun W => isMark_any i r.lp r.L.length r.lc W)
  have HJM := Lib.hid (fun W => isMark_any j r.rp r.R.length r.rc W)
  rw [hmi] at HIM
  rw [hmj] at HJM
  go_enter Try.func16, Try.ntmps16
  go_wp2_with (first | (with_reducible refine wpList_stopAlloc (ty := 85) rfl ?_; unfold Stop; refine wpList_alloc85 rfl rfl ?_) | (go_at_call 48; refine (HLK.out _ (Gr.alloc _ _)).mono ?_; rintro e w1 ⟨rfl, hb1⟩; have HG1 := Lib.hid (show Gr _ w1 from hb1); have HR1 := Lib.hid (HR0.out.grow hb1); have HT := Lib.hid (Box.fresh w1 Lk.zero.cs 85); clear hb1 HR0) | (with_reducible refine wpList_stopStore (ty := 85) rfl ?_; unfold Stop; refine wpList_storeBox row85 hkl hzl (lk_one _) HT.out rfl rfl rfl rfl ?_; have HT2 := Lib.hid (show Box ((w1.alloc (Obj.cells Lk.zero.cs.toArray 85)).setRow w1.heap.size r.lkd.cs.toArray) w1.heap.size r.lkd.cs 85 from HT.out.row (vs := r.lkd.cs)); have HG2 := Lib.hid (show Gr w1 ((w1.alloc (Obj.cells Lk.zero.cs.toArray 85)).setRow w1.heap.size r.lkd.cs.toArray) from Gr.row_new w1 _ _ _); generalize (w1.alloc (Obj.cells Lk.zero.cs.toArray 85)).setRow w1.heap.size r.lkd.cs.toArray = w2 at *; have HR2 := Lib.hid (HR1.out.grow HG2.out); obtain ⟨r0, r1, r2, r3, r4⟩ := cells5 HR2.out; have rl := HR2.out.lt; have l0 := HT2.out.lt; clear HR1 HT) | (go_at_call 49; refine (HIM.out _).mono ?_; rintro e w3 ⟨rfl, hb3⟩; have HG3 := Lib.hid (show Gr _ w3 from hb3); have HR3 := Lib.hid (HR2.out.grow hb3); have HT3 := Lib.hid (HT2.out.grow hb3); clear r0 r1 r2 r3 r4 rl; obtain ⟨r0, r1, r2, r3, r4⟩ := cells5 HR3.out; have rl := HR3.out.lt; clear hb3 HIM) | (go_at_call 49; refine (HJM.out _).mono ?_; rintro e w4 ⟨rfl, hb4⟩; have HG4 := Lib.hid (show Gr _ w4 from hb4); have HT4 := Lib.hid (HT3.out.grow hb4);  clear hb4 HJM))
  exact bodyPost_ret (v := .tuple #[.bool false, .int .i64 2]) (by simp [results, Try.f16, go_sem]) rfl ⟨rfl, (bgr ((Below.refl _ _).alloc (by first | (simp; done) | (simp; omega) | omega) _) (by first | (simp; done) | (simp; omega) | omega) (Gr.tr (Gr.tr (Gr.tr HG1.out HG2.out) HG3.out) HG4.out))⟩
set_option maxRecDepth 100000 in
set_option maxHeartbeats 2000000 in
theorem fits_yes (r : Rr) (i j : Int) (w : World) (hl : MksAt r.L r.lp w) (hr : MksAt r.R r.rp w) (hok : r.ok = true) (hmi : (decide (0 ≤ i) && decide (i < r.L.length)) = true) (hmj : (decide (0 ≤ j) && decide (j < r.R.length)) = true) :
    Calls Try.prog 16 #[r.val, .int .i64 i, .int .i64 j] w fun e w' => e = .returned (.tuple #[.bool (r.fitm i.toNat j.toNat), .int .i64 0]) ∧ Below w.heap.size w w' := by
  have hzl := Lk.zero.cs_len
  have HR0 := Lib.hid (Box.fresh w r.cs 26)
  have HLK := Lib.hid (fun W (hg : Gr w W) => look_any r W (hl.grow hg) (hr.grow hg))
  unfold Rr.cs at HR0
  unfold Rr.val at *
  have e0 : r.looked = (r.lkd, 0) := by unfold Rr.looked; rw [hok]; rfl
  rw [e0] at HLK
  clear hl hr e0
  dsimp only at HLK
  have hkl := r.lkd.cs_len
  have HOK := Lib.hid (Rr.lkd_ok hok)
  have HIM := Lib.hid (fun W => isMark_any i r.lp r.L.length r.lc W)
  have HJM := Lib.hid (fun W => isMark_any j r.rp r.R.length r.rc W)
  rw [hmi] at HIM
  rw [hmj] at HJM
  obtain ⟨ni, hni⟩ : ∃ ni : Nat, i = ni := ⟨i.toNat, by simp at hmi; omega⟩
  obtain ⟨nj, hnj⟩ : ∃ nj : Nat, j = nj := ⟨j.toNat, by simp at hmj; omega⟩
  subst hni hnj
  have hLi : ni < 10 := by simp at hmi; have := HOK.out.nL; have : r.lkd.nL = r.L.length := rfl; omega
  have hRj : nj < 10 := by simp at hmj; have := HOK.out.nR; have : r.lkd.nR = r.R.length := rfl; omega
  go_enter Try.func16, Try.ntmps16
  go_wp2_with (first | (with_reducible refine wpList_stopAlloc (ty := 85) rfl ?_; unfold Stop; refine wpList_alloc85 rfl rfl ?_) | (go_at_call 48; refine (HLK.out _ (Gr.alloc _ _)).mono ?_; rintro e w1 ⟨rfl, hb1⟩; have HG1 := Lib.hid (show Gr _ w1 from hb1); have HR1 := Lib.hid (HR0.out.grow hb1); have HT := Lib.hid (Box.fresh w1 Lk.zero.cs 85); clear hb1 HR0) | (with_reducible refine wpList_stopStore (ty := 85) rfl ?_; unfold Stop; refine wpList_storeBox row85 hkl hzl (lk_one _) HT.out rfl rfl rfl rfl ?_; have HT2 := Lib.hid (show Box ((w1.alloc (Obj.cells Lk.zero.cs.toArray 85)).setRow w1.heap.size r.lkd.cs.toArray) w1.heap.size r.lkd.cs 85 from HT.out.row (vs := r.lkd.cs)); have HG2 := Lib.hid (show Gr w1 ((w1.alloc (Obj.cells Lk.zero.cs.toArray 85)).setRow w1.heap.size r.lkd.cs.toArray) from Gr.row_new w1 _ _ _); generalize (w1.alloc (Obj.cells Lk.zero.cs.toArray 85)).setRow w1.heap.size r.lkd.cs.toArray = w2 at *; have HR2 := Lib.hid (HR1.out.grow HG2.out); obtain ⟨r0, r1, r2, r3, r4⟩ := cells5 HR2.out; have rl := HR2.out.lt; have l0 := HT2.out.lt; clear HR1 HT) | (go_at_call 49; refine (HIM.out _).mono ?_; rintro e w3 ⟨rfl, hb3⟩; have HG3 := Lib.hid (show Gr _ w3 from hb3); have HR3 := Lib.hid (HR2.out.grow hb3); have HT3 := Lib.hid (HT2.out.grow hb3); clear r0 r1 r2 r3 r4 rl; obtain ⟨r0, r1, r2, r3, r4⟩ := cells5 HR3.out; have rl := HR3.out.lt; clear hb3 HIM) | (go_at_call 49; refine (HJM.out _).mono ?_; rintro e w4 ⟨rfl, hb4⟩; have HG4 := Lib.hid (show Gr _ w4 from hb4); have HT4 := Lib.hid (HT3.out.grow hb4); have zf : w4.cell? ⟨w1.heap.size, 5 + ni * 10 + nj, none⟩ = some (.bool (r.fitm ni nj)) := (by rw [show 5 + ni * 10 + nj = 5 + (10 * ni + nj) by omega]; exact HT4.out.cell (r.lkd.fit_at hLi hRj)); have lf := HT4.out.lt; clear hb4 HJM))
  exact bodyPost_ret (v := .tuple #[.bool (r.fitm ni nj), .int .i64 0]) (by simp [results, Try.f16, go_sem]) rfl ⟨rfl, (bgr ((Below.refl _ _).alloc (by first | (simp; done) | (simp; omega) | omega) _) (by first | (simp; done) | (simp; omega) | omega) (Gr.tr (Gr.tr (Gr.tr HG1.out HG2.out) HG3.out) HG4.out))⟩
/-- What Fits tells. -/
def isM (i : Int) (n : Nat) : Bool := decide (0 ≤ i) && decide (i < n)
def Rr.fits (r : Rr) (i j : Int) : Bool × Int := if r.ok then (if isM i r.L.length && isM j r.R.length then (r.fitm i.toNat j.toNat, 0) else (false, 2)) else (false, 1)
theorem Fits_any (r : Rr) (i j : Int) (w : World) (hl : MksAt r.L r.lp w) (hr : MksAt r.R r.rp w) :
    Calls Try.prog 16 #[r.val, .int .i64 i, .int .i64 j] w fun e w' => e = .returned (.tuple #[.bool (r.fits i j).1, .int .i64 (r.fits i j).2]) ∧ Below w.heap.size w w' := by
  unfold Rr.fits
  cases h : r.ok with
  | false => exact fits_no r i j w hl hr h
  | true =>
    cases h1 : isM i r.L.length with
    | false => exact fits_i r i j w hl hr h h1
    | true =>
      cases h2 : isM j r.R.length with
      | false => exact fits_j r i j w hl hr h h1 h2
      | true => exact fits_yes r i j w hl hr h h1 h2

end Go.Proofs.Ytjlaoiimbhlafaa
