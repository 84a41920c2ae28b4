import Derived.Test.YtjlaoiimbhlafaaP8
import Derived.Test.YtjlaoiimbhlafaaP9
import Derived.Deep.OwnRows
import Derived.Laws.OwnMore
set_option linter.unusedVariables false
set_option linter.unusedSimpArgs false
section
namespace Go.Proofs.Ytjlaoiimbhlafaa
open Go.RowKit Go.Shelf

open MW
attribute [local go_sem] Oper.semAt_some run_store_func
set_option maxRecDepth 100000 in
set_option maxHeartbeats 2000000 in
theorem count_no (r : Rr) (w : World) (hl : MksAt r.L r.lp w) (hr : MksAt r.R r.rp w) (hok : r.ok = false) :
    Calls Try.prog 18 #[r.val] w fun e w' => e = .returned (.tuple #[.int .i64 0, .int .i64 1]) ∧ Below w.heap.size w w' := by
  have hzl := Lk.zero.cs_len
  have HR0 := Lib.hid (Box.fresh w r.cs 26)
  have HLK := Lib.hid (fun W (hg : Gr w W) => look_any r W (hl.grow hg) (hr.grow hg))
  unfold Rr.cs at HR0
  unfold Rr.val at *
  have e0 : r.looked = (Lk.zero, 1) := by unfold Rr.looked; rw [hok]; rfl
  rw [e0] at HLK
  clear hl hr e0
  dsimp only at HLK
  go_enter Try.func18, Try.ntmps18
  go_wp2_with (first | (with_reducible refine wpList_stopAlloc (ty := 85) rfl ?_; unfold Stop; refine wpList_alloc85 rfl rfl ?_) | (go_at_call 48; refine (HLK.out _ (Gr.alloc _ _)).mono ?_; rintro e w1 ⟨rfl, hb1⟩; have HG1 := Lib.hid (show Gr _ w1 from hb1); have HR1 := Lib.hid (HR0.out.grow hb1); have HT := Lib.hid (Box.fresh w1 Lk.zero.cs 85); clear hb1 HR0) | (with_reducible refine wpList_stopStore (ty := 85) rfl ?_; unfold Stop; refine wpList_storeBox row85 hzl hzl (lk_one _) HT.out rfl rfl rfl rfl ?_; have HT2 := Lib.hid (show Box ((w1.alloc (Obj.cells Lk.zero.cs.toArray 85)).setRow w1.heap.size Lk.zero.cs.toArray) w1.heap.size Lk.zero.cs 85 from HT.out.row (vs := Lk.zero.cs)); have HG2 := Lib.hid (show Gr w1 ((w1.alloc (Obj.cells Lk.zero.cs.toArray 85)).setRow w1.heap.size Lk.zero.cs.toArray) from Gr.row_new w1 _ _ _); generalize (w1.alloc (Obj.cells Lk.zero.cs.toArray 85)).setRow w1.heap.size Lk.zero.cs.toArray = w2 at *; have HR2 := Lib.hid (HR1.out.grow HG2.out); obtain ⟨r0, r1, r2, r3, r4⟩ := cells5 HR2.out; have rl := HR2.out.lt; clear HR1 HT))
  exact bodyPost_ret (v := .tuple #[.int .i64 0, .int .i64 1]) (by simp [results, Try.f18, go_sem]) rfl ⟨rfl, (bgr ((Below.refl _ _).alloc (by first | (simp; done) | (simp; omega) | omega) _) (by first | (simp; done) | (simp; omega) | omega) (Gr.tr HG1.out HG2.out))⟩
set_option maxRecDepth 100000 in
set_option maxHeartbeats 2000000 in
theorem count_yes (r : Rr) (w : World) (hl : MksAt r.L r.lp w) (hr : MksAt r.R r.rp w) (hok : r.ok = true) :
    Calls Try.prog 18 #[r.val] w fun e w' => e = .returned (.tuple #[.int .i64 r.lkd.all0, .int .i64 0]) ∧ Below w.heap.size w w' := by
  have hzl := Lk.zero.cs_len
  have HR0 := Lib.hid (Box.fresh w r.cs 26)
  have HLK := Lib.hid (fun W (hg : Gr w W) => look_any r W (hl.grow hg) (hr.grow hg))
  unfold Rr.cs at HR0
  unfold Rr.val at *
  have e0 : r.looked = (r.lkd, 0) := by unfold Rr.looked; rw [hok]; rfl
  rw [e0] at HLK
  clear hl hr e0
  dsimp only at HLK
  have hkl := r.lkd.cs_len
  have HOK := Lib.hid (Rr.lkd_ok hok)
  have HC := Lib.hid (fun W => count_any r.lkd r.lkd.all HOK.out.m HOK.out.r HOK.out.nL HOK.out.nR HOK.out.h W)
  have hc0 : r.lkd.wy r.lkd.all 0 0 r.lkd.h = r.lkd.all0 := rfl
  rw [hc0] at HC
  clear hc0
  go_enter Try.func18, Try.ntmps18
  go_wp2_with (first | (with_reducible refine wpList_stopAlloc (ty := 85) rfl ?_; unfold Stop; refine wpList_alloc85 rfl rfl ?_) | (go_at_call 48; refine (HLK.out _ (Gr.alloc _ _)).mono ?_; rintro e w1 ⟨rfl, hb1⟩; have HG1 := Lib.hid (show Gr _ w1 from hb1); have HR1 := Lib.hid (HR0.out.grow hb1); have HT := Lib.hid (Box.fresh w1 Lk.zero.cs 85); clear hb1 HR0) | (with_reducible refine wpList_stopStore (ty := 85) rfl ?_; unfold Stop; refine wpList_storeBox row85 hkl hzl (lk_one _) HT.out rfl rfl rfl rfl ?_; have HT2 := Lib.hid (show Box ((w1.alloc (Obj.cells Lk.zero.cs.toArray 85)).setRow w1.heap.size r.lkd.cs.toArray) w1.heap.size r.lkd.cs 85 from HT.out.row (vs := r.lkd.cs)); have HG2 := Lib.hid (show Gr w1 ((w1.alloc (Obj.cells Lk.zero.cs.toArray 85)).setRow w1.heap.size r.lkd.cs.toArray) from Gr.row_new w1 _ _ _); generalize (w1.alloc (Obj.cells Lk.zero.cs.toArray 85)).setRow w1.heap.size r.lkd.cs.toArray = w2 at *; have HR2 := Lib.hid (HR1.out.grow HG2.out); obtain ⟨r0, r1, r2, r3, r4⟩ := cells5 HR2.out; have rl := HR2.out.lt; clear HR1 HT) | (with_reducible refine wpList_stopLoad (ty := 85) rfl ?_; unfold Stop; refine wpList_loadBox row85 (r.lkd.cs_len) (HT2.out) rfl rfl rfl ?_) | (with_reducible refine wpList_stopLoad (ty := 83) rfl ?_; unfold Stop; refine wpList_loadPart row83 (opts_len r.lkd.all) (HT2.out) r.lkd.part rfl rfl rfl ?_) | (go_at_call 52; refine (HC.out _).mono ?_; rintro e w4 ⟨rfl, hb4⟩; have HG4 := Lib.hid (show Gr _ w4 from hb4); clear hb4))
  exact bodyPost_ret (v := .tuple #[.int .i64 r.lkd.all0, .int .i64 0]) (by simp [results, Try.f18, go_sem]) rfl ⟨rfl, (bgr ((Below.refl _ _).alloc (by first | (simp; done) | (simp; omega) | omega) _) (by first | (simp; done) | (simp; omega) | omega) (Gr.tr (Gr.tr HG1.out HG2.out) HG4.out))⟩
/-- What Count tells. -/
def Rr.counted (r : Rr) : Nat × Int := if r.ok then (r.lkd.all0, 0) else (0, 1)
theorem Count_any (r : Rr) (w : World) (hl : MksAt r.L r.lp w) (hr : MksAt r.R r.rp w) :
    Calls Try.prog 18 #[r.val] w fun e w' => e = .returned (.tuple #[.int .i64 (r.counted.1 : Nat), .int .i64 r.counted.2]) ∧ Below w.heap.size w w' := by
  unfold Rr.counted
  cases h : r.ok with
  | true => exact count_yes r w hl hr h
  | false => exact count_no r w hl hr h
set_option maxRecDepth 100000 in
set_option maxHeartbeats 2000000 in
theorem fits_no (r : Rr) (i j : Int) (w : World) (hl : MksAt r.L r.lp w) (hr : MksAt r.R r.rp w) (hok : r.ok = false) :
    Calls Try.prog 16 #[r.val, .int .i64 i, .int .i64 j] w fun e w' => e = .returned (.tuple #[.bool false, .int .i64 1]) ∧ Below w.heap.size w w' := by
  have hzl := Lk.zero.cs_len
  have HR0 := Lib.hid (Box.fresh w r.cs 26)
  have HLK := Lib.hid (fun W (hg : Gr w W) => look_any r W (hl.grow hg) (hr.grow hg))
  unfold Rr.cs at HR0
  unfold Rr.val at *
  have e0 : r.looked = (Lk.zero, 1) := by unfold Rr.looked; rw [hok]; rfl
  rw [e0] at HLK
  clear hl hr e0
  dsimp only at HLK
  go_enter Try.func16, Try.ntmps16
  go_wp2_with (first | (with_reducible refine wpList_stopAlloc (ty := 85) rfl ?_; unfold Stop; refine wpList_alloc85 rfl rfl ?_) | (go_at_call 48; refine (HLK.out _ (Gr.alloc _ _)).mono ?_; rintro e w1 ⟨rfl, hb1⟩; have HG1 := Lib.hid (show Gr _ w1 from hb1); have HR1 := Lib.hid (HR0.out.grow hb1); have HT := Lib.hid (Box.fresh w1 Lk.zero.cs 85); clear hb1 HR0) | (with_reducible refine wpList_stopStore (ty := 85) rfl ?_; unfold Stop; refine wpList_storeBox row85 hzl hzl (lk_one _) HT.out rfl rfl rfl rfl ?_; have HT2 := Lib.hid (show Box ((w1.alloc (Obj.cells Lk.zero.cs.toArray 85)).setRow w1.heap.size Lk.zero.cs.toArray) w1.heap.size Lk.zero.cs 85 from HT.out.row (vs := Lk.zero.cs)); have HG2 := Lib.hid (show Gr w1 ((w1.alloc (Obj.cells Lk.zero.cs.toArray 85)).setRow w1.heap.size Lk.zero.cs.toArray) from Gr.row_new w1 _ _ _); generalize (w1.alloc (Obj.cells Lk.zero.cs.toArray 85)).setRow w1.heap.size Lk.zero.cs.toArray = w2 at *; have HR2 := Lib.hid (HR1.out.grow HG2.out); obtain ⟨r0, r1, r2, r3, r4⟩ := cells5 HR2.out; have rl := HR2.out.lt; have l0 := HT2.out.lt; clear HR1 HT))
  exact bodyPost_ret (v := .tuple #[.bool false, .int .i64 1]) (by simp [results, Try.f16, go_sem]) rfl ⟨rfl, (bgr ((Below.refl _ _).alloc (by first | (simp; done) | (simp; omega) | omega) _) (by first | (simp; done) | (simp; omega) | omega) (Gr.tr HG1.out HG2.out))⟩
set_option maxRecDepth 100000 in
set_option maxHeartbeats 2000000 in
theorem fits_i (r : Rr) (i j : Int) (w : World) (hl : MksAt r.L r.lp w) (hr : MksAt r.R r.rp w) (hok : r.ok = true) (hmi : (decide (0 ≤ i) && decide (i < r.L.length)) = false) :
    Calls Try.prog 16 #[r.val, .int .i64 i, .int .i64 j] w fun e w' => e = .returned (.tuple #[.bool false, .int .i64 2]) ∧ Below w.heap.size w w' := by
  have hzl := Lk.zero.cs_len
  have HR0 := Lib.hid (Box.fresh w r.cs 26)
  have HLK := Lib.hid (fun W (hg : Gr w W) => look_any r W (hl.grow hg) (hr.grow hg))
  unfold Rr.cs at HR0
  unfold Rr.val at *
  have e0 : r.looked = (r.lkd, 0) := by unfold Rr.looked; rw [hok]; rfl
  rw [e0] at HLK
  clear hl hr e0
  dsimp only at HLK
  have hkl := r.lkd.cs_len
  have HOK := Lib.hid (Rr.lkd_ok hok)
  have HIM := Lib.hid (fun W => isMark_any i r.lp r.L.length r.lc W)
  have HJM := Lib.hid (fun W => isMark_any j r.rp r.R.length r.rc W)
  rw [hmi] at HIM
  go_enter Try.func16, Try.ntmps16
  go_wp2_with (first | (with_reducible refine wpList_stopAlloc (ty := 85) rfl ?_; unfold Stop; refine wpList_alloc85 rfl rfl ?_) | (go_at_call 48; refine (HLK.out _ (Gr.alloc _ _)).mono ?_; rintro e w1 ⟨rfl, hb1⟩; have HG1 := Lib.hid (show Gr _ w1 from hb1); have HR1 := Lib.hid (HR0.out.grow hb1); have HT := Lib.hid (Box.fresh w1 Lk.zero.cs 85); clear hb1 HR0) | (with_reducible refine wpList_stopStore (ty := 85) rfl ?_; unfold Stop; refine wpList_storeBox row85 hkl hzl (lk_one _) HT.out rfl rfl rfl rfl ?_; have HT2 := Lib.hid (show Box ((w1.alloc (Obj.cells Lk.zero.cs.toArray 85)).setRow w1.heap.size r.lkd.cs.toArray) w1.heap.size r.lkd.cs 85 from HT.out.row (vs := r.lkd.cs)); have HG2 := Lib.hid (show Gr w1 ((w1.alloc (Obj.cells Lk.zero.cs.toArray 85)).setRow w1.heap.size r.lkd.cs.toArray) from Gr.row_new w1 _ _ _); generalize (w1.alloc (Obj.cells Lk.zero.cs.toArray 85)).setRow w1.heap.size r.lkd.cs.toArray = w2 at *; have HR2 := Lib.hid (HR1.out.grow HG2.out); obtain ⟨r0, r1, r2, r3, r4⟩ := cells5 HR2.out; have rl := HR2.out.lt; have l0 := HT2.out.lt; clear HR1 HT) | (go_at_call 49; refine (HIM.out _).mono ?_; rintro e w3 ⟨rfl, hb3⟩; have HG3 := Lib.hid (show Gr _ w3 from hb3); have HR3 := Lib.hid (HR2.out.grow hb3); have HT3 := Lib.hid (HT2.out.grow hb3); clear r0 r1 r2 r3 r4 rl; obtain ⟨r0, r1, r2, r3, r4⟩ := cells5 HR3.out; have rl := HR3.out.lt; clear hb3 HIM) | (go_at_call 49; refine (HJM.out _).mono ?_; rintro e w4 ⟨rfl, hb4⟩; have HG4 := Lib.hid (show Gr _ w4 from hb4); have HT4 := Lib.hid (HT3.out.grow hb4);  clear hb4 HJM))
  exact bodyPost_ret (v := .tuple #[.bool false, .int .i64 2]) (by simp [results, Try.f16, go_sem]) rfl ⟨rfl, (bgr ((Below.refl _ _).alloc (by first | (simp; done) | (simp; omega) | omega) _) (by first | (simp; done) | (simp; omega) | omega) (Gr.tr (Gr.tr HG1.out HG2.out) HG3.out))⟩
set_option maxRecDepth 100000 in
set_option maxHeartbeats 2000000 in
theorem fits_j (r : Rr) (i j : Int) (w : World) (hl : MksAt r.L r.lp w) (hr : MksAt r.R r.rp w) (hok : r.ok = true) (hmi : (decide (0 ≤ i) && decide (i < r.L.length)) = true) (hmj : (decide (0 ≤ j) && decide (j < r.R.length)) = false) :
    Calls Try.prog 16 #[r.val, .int .i64 i, .int .i64 j] w fun e w' => e = .returned (.tuple #[.bool false, .int .i64 2]) ∧ Below w.heap.size w w' := by
  have hzl := Lk.zero.cs_len
  have HR0 := Lib.hid (Box.fresh w r.cs 26)
  have HLK := Lib.hid (fun W (hg : Gr w W) => look_any r W (hl.grow hg) (hr.grow hg))
  unfold Rr.cs at HR0
  unfold Rr.val at *
  have e0 : r.looked = (r.lkd, 0) := by unfold Rr.looked; rw [hok]; rfl
  rw [e0] at HLK
  clear hl hr e0
  dsimp only at HLK
  have hkl := r.lkd.cs_len
  have HOK := Lib.hid (Rr.lkd_ok hok)
  have HIM := Lib.hid (fun W => isMark_any i r.lp r.L.length r.lc W)
  have HJM := Lib.hid (fun W => isMark_any j r.rp r.R.length r.rc W)
  rw [hmi] at HIM
  rw [hmj] at HJM
  go_enter Try.func16, Try.ntmps16
  go_wp2_with (first | (with_reducible refine wpList_stopAlloc (ty := 85) rfl ?_; unfold Stop; refine wpList_alloc85 rfl rfl ?_) | (go_at_call 48; refine (HLK.out _ (Gr.alloc _ _)).mono ?_; rintro e w1 ⟨rfl, hb1⟩; have HG1 := Lib.hid (show Gr _ w1 from hb1); have HR1 := Lib.hid (HR0.out.grow hb1); have HT := Lib.hid (Box.fresh w1 Lk.zero.cs 85); clear hb1 HR0) | (with_reducible refine wpList_stopStore (ty := 85) rfl ?_; unfold Stop; refine wpList_storeBox row85 hkl hzl (lk_one _) HT.out rfl rfl rfl rfl ?_; have HT2 := Lib.hid (show Box ((w1.alloc (Obj.cells Lk.zero.cs.toArray 85)).setRow w1.heap.size r.lkd.cs.toArray) w1.heap.size r.lkd.cs 85 from HT.out.row (vs := r.lkd.cs)); have HG2 := Lib.hid (show Gr w1 ((w1.alloc (Obj.cells Lk.zero.cs.toArray 85)).setRow w1.heap.size r.lkd.cs.toArray) from Gr.row_new w1 _ _ _); generalize (w1.alloc (Obj.cells Lk.zero.cs.toArray 85)).setRow w1.heap.size r.lkd.cs.toArray = w2 at *; have HR2 := Lib.hid (HR1.out.grow HG2.out); obtain ⟨r0, r1, r2, r3, r4⟩ := cells5 HR2.out; have rl := HR2.out.lt; have l0 := HT2.out.lt; clear HR1 HT) | (go_at_call 49; refine (HIM.out _).mono ?_; rintro e w3 ⟨rfl, hb3⟩; have HG3 := Lib.hid (show Gr _ w3 from hb3); have HR3 := Lib.hid (HR2.out.grow hb3); have HT3 := Lib.hid (HT2.out.grow hb3); clear r0 r1 r2 r3 r4 rl; obtain ⟨r0, r1, r2, r3, r4⟩ := cells5 HR3.out; have rl := HR3.out.lt; clear hb3 HIM) | (go_at_call 49; refine (HJM.out _).mono ?_; rintro e w4 ⟨rfl, hb4⟩; have HG4 := Lib.hid (show Gr _ w4 from hb4); have HT4 := Lib.hid (HT3.out.grow hb4);  clear hb4 HJM))
  exact bodyPost_ret (v := .tuple #[.bool false, .int .i64 2]) (by simp [results, Try.f16, go_sem]) rfl ⟨rfl, (bgr ((Below.refl _ _).alloc (by first | (simp; done) | (simp; omega) | omega) _) (by first | (simp; done) | (simp; omega) | omega) (Gr.tr (Gr.tr (Gr.tr HG1.out HG2.out) HG3.out) HG4.out))⟩
set_option maxRecDepth 100000 in
set_option maxHeartbeats 2000000 in
theorem fits_yes (r : Rr) (i j : Int) (w : World) (hl : MksAt r.L r.lp w) (hr : MksAt r.R r.rp w) (hok : r.ok = true) (hmi : (decide (0 ≤ i) && decide (i < r.L.length)) = true) (hmj : (decide (0 ≤ j) && decide (j < r.R.length)) = true) :
    Calls Try.prog 16 #[r.val, .int .i64 i, .int .i64 j] w fun e w' => e = .returned (.tuple #[.bool (r.fitm i.toNat j.toNat), .int .i64 0]) ∧ Below w.heap.size w w' := by
  have hzl := Lk.zero.cs_len
  have HR0 := Lib.hid (Box.fresh w r.cs 26)
  have HLK := Lib.hid (fun W (hg : Gr w W) => look_any r W (hl.grow hg) (hr.grow hg))
  unfold Rr.cs at HR0
  unfold Rr.val at *
  have e0 : r.looked = (r.lkd, 0) := by unfold Rr.looked; rw [hok]; rfl
  rw [e0] at HLK
  clear hl hr e0
  dsimp only at HLK
  have hkl := r.lkd.cs_len
  have HOK := Lib.hid (Rr.lkd_ok hok)
  have HIM := Lib.hid (fun W => isMark_any i r.lp r.L.length r.lc W)
  have HJM := Lib.hid (fun W => isMark_any j r.rp r.R.length r.rc W)
  rw [hmi] at HIM
  rw [hmj] at HJM
  obtain ⟨ni, hni⟩ : ∃ ni : Nat, i = ni := ⟨i.toNat, by simp at hmi; omega⟩
  obtain ⟨nj, hnj⟩ : ∃ nj : Nat, j = nj := ⟨j.toNat, by simp at hmj; omega⟩
  subst hni hnj
  have hLi : ni < 10 := by simp at hmi; have := HOK.out.nL; have : r.lkd.nL = r.L.length := rfl; omega
  have hRj : nj < 10 := by simp at hmj; have := HOK.out.nR; have : r.lkd.nR = r.R.length := rfl; omega
  go_enter Try.func16, Try.ntmps16
  go_wp2_with (first | (with_reducible refine wpList_stopAlloc (ty := 85) rfl ?_; unfold Stop; refine wpList_alloc85 rfl rfl ?_) | (go_at_call 48; refine (HLK.out _ (Gr.alloc _ _)).mono ?_; rintro e w1 ⟨rfl, hb1⟩; have HG1 := Lib.hid (show Gr _ w1 from hb1); have HR1 := Lib.hid (HR0.out.grow hb1); have HT := Lib.hid (Box.fresh w1 Lk.zero.cs 85); clear hb1 HR0) | (with_reducible refine wpList_stopStore (ty := 85) rfl ?_; unfold Stop; refine wpList_storeBox row85 hkl hzl (lk_one _) HT.out rfl rfl rfl rfl ?_; have HT2 := Lib.hid (show Box ((w1.alloc (Obj.cells Lk.zero.cs.toArray 85)).setRow w1.heap.size r.lkd.cs.toArray) w1.heap.size r.lkd.cs 85 from HT.out.row (vs := r.lkd.cs)); have HG2 := Lib.hid (show Gr w1 ((w1.alloc (Obj.cells Lk.zero.cs.toArray 85)).setRow w1.heap.size r.lkd.cs.toArray) from Gr.row_new w1 _ _ _); generalize (w1.alloc (Obj.cells Lk.zero.cs.toArray 85)).setRow w1.heap.size r.lkd.cs.toArray = w2 at *; have HR2 := Lib.hid (HR1.out.grow HG2.out); obtain ⟨r0, r1, r2, r3, r4⟩ := cells5 HR2.out; have rl := HR2.out.lt; have l0 := HT2.out.lt; clear HR1 HT) | (go_at_call 49; refine (HIM.out _).mono ?_; rintro e w3 ⟨rfl, hb3⟩; have HG3 := Lib.hid (show Gr _ w3 from hb3); have HR3 := Lib.hid (HR2.out.grow hb3); have HT3 := Lib.hid (HT2.out.grow hb3); clear r0 r1 r2 r3 r4 rl; obtain ⟨r0, r1, r2, r3, r4⟩ := cells5 HR3.out; have rl := HR3.out.lt; clear hb3 HIM) | (go_at_call 49; refine (HJM.out _).mono ?_; rintro e w4 ⟨rfl, hb4⟩; have HG4 := Lib.hid (show Gr _ w4 from hb4); have HT4 := Lib.hid (HT3.out.grow hb4); have zf : w4.cell? ⟨w1.heap.size, 5 + ni * 10 + nj, none⟩ = some (.bool (r.fitm ni nj)) := (by rw [show 5 + ni * 10 + nj = 5 + (10 * ni + nj) by omega]; exact HT4.out.cell (r.lkd.fit_at hLi hRj)); have lf := HT4.out.lt; clear hb4 HJM))
  exact bodyPost_ret (v := .tuple #[.bool (r.fitm ni nj), .int .i64 0]) (by simp [results, Try.f16, go_sem]) rfl ⟨rfl, (bgr ((Below.refl _ _).alloc (by first | (simp; done) | (simp; omega) | omega) _) (by first | (simp; done) | (simp; omega) | omega) (Gr.tr (Gr.tr (Gr.tr HG1.out HG2.out) HG3.out) HG4.out))⟩
/-- What Fits tells. -/
def isM (i : Int) (n : Nat) : Bool := decide (0 ≤ i) && decide (i < n)
def Rr.fits (r : Rr) (i j : Int) : Bool × Int := if r.ok then (if isM i r.L.length && isM j r.R.length then (r.fitm i.toNat j.toNat, 0) else (false, 2)) else (false, 1)
theorem Fits_any (r : Rr) (i j : Int) (w : World) (hl : MksAt r.L r.lp w) (hr : MksAt r.R r.rp w) :
    Calls Try.prog 16 #[r.val, .int .i64 i, .int .i64 j] w fun e w' => e = .returned (.tuple #[.bool (r.fits i j).1, .int .i64 (r.fits i j).2]) ∧ Below w.heap.size w w' := by
  unfold Rr.fits
  cases h : r.ok with
  | false => exact fits_no r i j w hl hr h
  | true =>
    cases h1 : isM i r.L.length with
    | false => exact fits_i r i j w hl hr h h1
    | true =>
      cases h2 : isM j r.R.length with
      | false => exact fits_j r i j w hl hr h h1 h2
      | true => exact fits_yes r i j w hl hr h h1 h2

end Go.Proofs.Ytjlaoiimbhlafaa
end
section
namespace Go.Proofs.Ytjlaoiimbhlafaa
open Go.RowKit Go.Shelf

open MW
attribute [local go_sem] Oper.semAt_some run_store_func
theorem sum_zero : ∀ {l : List Nat}, l.sum = 0 → ∀ x ∈ l, x = 0
  | [], _, x, hx => by cases hx
  | a :: l, h, x, hx => by
    rw [List.sum_cons] at h
    rcases List.mem_cons.1 hx with rfl | hx
    · omega
    · exact sum_zero (by omega) x hx
theorem zero_sum : ∀ {l : List Nat}, (∀ x ∈ l, x = 0) → l.sum = 0
  | [], _ => rfl
  | a :: l, h => by rw [List.sum_cons, h a (List.mem_cons_self ..), zero_sum fun x hx => h x (List.mem_cons_of_mem _ hx)]
theorem least {P : Nat → Prop} : ∀ (N : Nat), P N → ∃ n, n ≤ N ∧ P n ∧ ∀ j, j < n → ¬ P j
  | N, h => by
    by_cases hx : ∃ j, j < N ∧ P j
    · obtain ⟨j, hj, hp⟩ := hx
      obtain ⟨n, h1, h2, h3⟩ := least j hp
      exact ⟨n, by omega, h2, h3⟩
    · exact ⟨N, Nat.le_refl _, h, fun j hj hp => hx ⟨j, hj, hp⟩⟩
theorem cw_all {o : Nat → Nat → Bool} {nR : Nat} : ∀ {is : List Nat} {r : Nat} {h h' : Int}, r ≤ nR → cw o nR is r h ≠ 0 → (is.length : Int) + nR - r ≤ h' → cw o nR is r h' ≠ 0
  | [], r, h, h', hr, h0, hh => by
    unfold cw
    rw [if_neg (by simp at hh; omega)]
    decide
  | i :: is, r, h, h', hr, h0, hh => by
    simp only [List.length_cons, Int.natCast_add, Int.cast_ofNat_Int] at hh
    unfold cw at h0 ⊢
    by_cases hn : h < 0
    · rw [if_pos hn] at h0; exact absurd rfl h0
    rw [if_neg hn] at h0
    rw [if_neg (by omega)]
    by_cases hh10 : (if o i 10 then cw o nR is r (h - 1) else 0) = 0
    · rw [hh10, Nat.add_zero] at h0
      intro hs
      apply h0
      have hs2 : (((List.range nR).filter fun k => decide (r ≤ k) && o i k).map fun k => cw o nR is (k + 1) (h' - (k - r))).sum = 0 := by omega
      refine zero_sum fun x hx => ?_
      obtain ⟨k, hk, rfl⟩ := List.mem_map.1 hx
      have hk2 : k < nR ∧ r ≤ k := by simp at hk; omega
      refine Classical.byContradiction fun hc => ?_
      have := cw_all (h' := h' - (k - r)) (show k + 1 ≤ nR by omega) hc (by omega)
      exact this (sum_zero hs2 _ (List.mem_map.2 ⟨k, hk, rfl⟩))
    · by_cases ho : o i 10
      · rw [if_pos ho] at hh10 ⊢
        have := cw_all (h' := h' - 1) hr hh10 (by omega)
        omega
      · rw [if_neg ho] at hh10; exact absurd rfl hh10
theorem Lk.few_spec {k : Lk} (hk : k.Ok) (h0 : k.all0 ≠ 0) : k.few ≤ k.nL + k.nR ∧ k.few ≤ 20 ∧ k.at_ k.few ≠ 0 ∧ ∀ j : Nat, j < k.few → k.at_ j = 0 := by
  have h1 : k.at_ ((k.nL + k.nR : Nat) : Int) ≠ 0 := by
    unfold Lk.at_ Lk.wy
    exact cw_all (Nat.zero_le _) (show cw (fun i j => (k.all i).testBit j) k.nR (lf 0 k.nL) 0 k.h ≠ 0 from h0) (by rw [lf_len]; omega)
  obtain ⟨n, h2, h3, h4⟩ := least (P := fun n : Nat => k.at_ n ≠ 0) _ h1
  have hL := hk.nL
  have hR := hk.nR
  have e := k.few_is (n := n) (by omega) h3 (fun j hj => Classical.byContradiction fun hc => h4 j hj hc)
  rw [e]
  exact ⟨h2, by omega, h3, fun j hj => Classical.byContradiction fun hc => h4 j hj hc⟩
/-- What Fewest tells. -/
def Rr.fewest (r : Rr) : List (Nat × Nat) × Nat × Int := if r.ok then (if r.lkd.all0 = 0 then ([], 0, 4) else ((r.lkd.wh r.lkd.few).fst, r.lkd.few, 0)) else ([], 0, 1)
def FwPost (w : World) (l : List (Nat × Nat)) (n : Nat) (c : Int) (e : Ending) (w' : World) : Prop := (∃ v, e = .returned (.tuple #[v, .int .i64 n, .int .i64 c]) ∧ w'.ownsRow w.heap.size 55 2 v l.length (l.flatMap pv)) ∧ Below w.heap.size w w'
set_option maxRecDepth 100000 in
set_option maxHeartbeats 2000000 in
theorem fewest_no (r : Rr) (w : World) (hl : MksAt r.L r.lp w) (hr : MksAt r.R r.rp w) (hok : r.ok = false) :
    Calls Try.prog 20 #[r.val] w (FwPost w [] 0 1) := by
  have hzl := Lk.zero.cs_len
  have HR0 := Lib.hid (Box.fresh w r.cs 26)
  have HLK := Lib.hid (fun W (hg : Gr w W) => asks_any r W (hl.grow hg) (hr.grow hg))
  unfold Rr.cs at HR0
  unfold Rr.val at *
  have e0 : r.asked true = (Lk.zero, 1) := by unfold Rr.asked; rw [hok]; rfl
  rw [e0] at HLK
  clear hl hr e0
  dsimp only at HLK
  go_enter Try.func20, Try.ntmps20
  go_wp2_with (first | (with_reducible refine wpList_stopAlloc (ty := 85) rfl ?_; unfold Stop; refine wpList_alloc85 rfl rfl ?_) | (go_at_call 54; refine (HLK.out _ (Gr.alloc _ _)).mono ?_; rintro e w1 ⟨rfl, hb1⟩; have HG1 := Lib.hid (show Gr _ w1 from hb1); have HR1 := Lib.hid (HR0.out.grow hb1); have HT := Lib.hid (Box.fresh w1 Lk.zero.cs 85); clear hb1 HR0) | (with_reducible refine wpList_stopStore (ty := 85) rfl ?_; unfold Stop; refine wpList_storeBox row85 hzl hzl (lk_one _) HT.out rfl rfl rfl rfl ?_; have HT2 := Lib.hid (show Box ((w1.alloc (Obj.cells Lk.zero.cs.toArray 85)).setRow w1.heap.size Lk.zero.cs.toArray) w1.heap.size Lk.zero.cs 85 from HT.out.row (vs := Lk.zero.cs)); have HG2 := Lib.hid (show Gr w1 ((w1.alloc (Obj.cells Lk.zero.cs.toArray 85)).setRow w1.heap.size Lk.zero.cs.toArray) from Gr.row_new w1 _ _ _); generalize (w1.alloc (Obj.cells Lk.zero.cs.toArray 85)).setRow w1.heap.size Lk.zero.cs.toArray = w2 at *; have HR2 := Lib.hid (HR1.out.grow HG2.out); obtain ⟨r0, r1, r2, r3, r4⟩ := cells5 HR2.out; have rl := HR2.out.lt; clear HR1 HT))
  exact bodyPost_ret (v := .tuple #[.slice none 0 0, .int .i64 0, .int .i64 1]) (by simp [results, Try.f20, go_sem]) rfl ⟨⟨_, rfl, World.ownsRow_nil _ _ _ _⟩, (bgr ((Below.refl _ _).alloc (by first | (simp; done) | (simp; omega) | omega) _) (by first | (simp; done) | (simp; omega) | omega) (Gr.tr HG1.out HG2.out))⟩
set_option maxRecDepth 100000 in
set_option maxHeartbeats 2000000 in
theorem fewest_zero (r : Rr) (w : World) (hl : MksAt r.L r.lp w) (hr : MksAt r.R r.rp w) (hok : r.ok = true) (hz : r.lkd.all0 = 0) :
    Calls Try.prog 20 #[r.val] w (FwPost w [] 0 4) := by
  have hzl := Lk.zero.cs_len
  have HR0 := Lib.hid (Box.fresh w r.cs 26)
  have HLK := Lib.hid (fun W (hg : Gr w W) => asks_any r W (hl.grow hg) (hr.grow hg))
  unfold Rr.cs at HR0
  unfold Rr.val at *
  have e0 : r.asked true = (Lk.zero, 4) := by unfold Rr.asked; rw [hok]; simp [hz]
  rw [e0] at HLK
  clear hl hr e0
  dsimp only at HLK
  go_enter Try.func20, Try.ntmps20
  go_wp2_with (first | (with_reducible refine wpList_stopAlloc (ty := 85) rfl ?_; unfold Stop; refine wpList_alloc85 rfl rfl ?_) | (go_at_call 54; refine (HLK.out _ (Gr.alloc _ _)).mono ?_; rintro e w1 ⟨rfl, hb1⟩; have HG1 := Lib.hid (show Gr _ w1 from hb1); have HR1 := Lib.hid (HR0.out.grow hb1); have HT := Lib.hid (Box.fresh w1 Lk.zero.cs 85); clear hb1 HR0) | (with_reducible refine wpList_stopStore (ty := 85) rfl ?_; unfold Stop; refine wpList_storeBox row85 hzl hzl (lk_one _) HT.out rfl rfl rfl rfl ?_; have HT2 := Lib.hid (show Box ((w1.alloc (Obj.cells Lk.zero.cs.toArray 85)).setRow w1.heap.size Lk.zero.cs.toArray) w1.heap.size Lk.zero.cs 85 from HT.out.row (vs := Lk.zero.cs)); have HG2 := Lib.hid (show Gr w1 ((w1.alloc (Obj.cells Lk.zero.cs.toArray 85)).setRow w1.heap.size Lk.zero.cs.toArray) from Gr.row_new w1 _ _ _); generalize (w1.alloc (Obj.cells Lk.zero.cs.toArray 85)).setRow w1.heap.size Lk.zero.cs.toArray = w2 at *; have HR2 := Lib.hid (HR1.out.grow HG2.out); obtain ⟨r0, r1, r2, r3, r4⟩ := cells5 HR2.out; have rl := HR2.out.lt; clear HR1 HT))
  exact bodyPost_ret (v := .tuple #[.slice none 0 0, .int .i64 0, .int .i64 4]) (by simp [results, Try.f20, go_sem]) rfl ⟨⟨_, rfl, World.ownsRow_nil _ _ _ _⟩, (bgr ((Below.refl _ _).alloc (by first | (simp; done) | (simp; omega) | omega) _) (by first | (simp; done) | (simp; omega) | omega) (Gr.tr HG1.out HG2.out))⟩
set_option maxRecDepth 100000 in
set_option maxHeartbeats 2000000 in
theorem fewest_yes (r : Rr) (w : World) (hl : MksAt r.L r.lp w) (hr : MksAt r.R r.rp w) (hok : r.ok = true) (hz : r.lkd.all0 ≠ 0) :
    Calls Try.prog 20 #[r.val] w (FwPost w (r.lkd.wh r.lkd.few).fst r.lkd.few 0) := by
  have hzl := Lk.zero.cs_len
  have HR0 := Lib.hid (Box.fresh w r.cs 26)
  have HLK := Lib.hid (fun W (hg : Gr w W) => asks_any r W (hl.grow hg) (hr.grow hg))
  unfold Rr.cs at HR0
  unfold Rr.val at *
  have e0 : r.asked true = (r.lkd, 0) := by unfold Rr.asked; rw [hok]; simp [hz]
  rw [e0] at HLK
  clear hl hr e0
  dsimp only at HLK
  have hkl := r.lkd.cs_len
  have HOK := Lib.hid (Rr.lkd_ok hok)
  have HFE := Lib.hid (fun W => fewest_any r.lkd W HOK.out hz)
  obtain ⟨hf1, hf2, -, -⟩ := Lk.few_spec HOK.out hz
  have HFI := Lib.hid (fun W => first_any (r.lkd.wh r.lkd.few) W (HOK.out.wh (by omega)) (show (r.lkd.few : Int) ≤ (r.lkd.nL : Int) + r.lkd.nR by omega))
  generalize hnf : r.lkd.few = nf at *
  clear hz hnf
  go_enter Try.func20, Try.ntmps20
  go_wp2_with (first | (with_reducible refine wpList_stopAlloc (ty := 85) rfl ?_; unfold Stop; refine wpList_alloc85 rfl rfl ?_) | (go_at_call 54; refine (HLK.out _ (Gr.alloc _ _)).mono ?_; rintro e w1 ⟨rfl, hb1⟩; have HG1 := Lib.hid (show Gr _ w1 from hb1); have HR1 := Lib.hid (HR0.out.grow hb1); have HT := Lib.hid (Box.fresh w1 Lk.zero.cs 85); clear hb1 HR0) | (with_reducible refine wpList_stopStore (ty := 85) rfl ?_; unfold Stop; refine wpList_storeBox row85 hkl hzl (lk_one _) HT.out rfl rfl rfl rfl ?_; have HT2 := Lib.hid (show Box ((w1.alloc (Obj.cells Lk.zero.cs.toArray 85)).setRow w1.heap.size r.lkd.cs.toArray) w1.heap.size r.lkd.cs 85 from HT.out.row (vs := r.lkd.cs)); have HG2 := Lib.hid (show Gr w1 ((w1.alloc (Obj.cells Lk.zero.cs.toArray 85)).setRow w1.heap.size r.lkd.cs.toArray) from Gr.row_new w1 _ _ _); generalize (w1.alloc (Obj.cells Lk.zero.cs.toArray 85)).setRow w1.heap.size r.lkd.cs.toArray = w2 at *; have HR2 := Lib.hid (HR1.out.grow HG2.out); obtain ⟨r0, r1, r2, r3, r4⟩ := cells5 HR2.out; have rl := HR2.out.lt; clear HR1 HT) | (with_reducible refine wpList_stopLoad (ty := 85) rfl ?_; unfold Stop; refine wpList_loadBox row85 (r.lkd.cs_len) (HT2.out) rfl rfl rfl ?_) | (go_at_call 55; refine (HFE.out _).mono ?_; rintro e w4 ⟨rfl, hb4⟩; have HG4 := Lib.hid (show Gr _ w4 from hb4); have HT4 := Lib.hid (HT2.out.grow hb4); have f4 := HT4.out.free (i := 4); have z4 := HT4.out.cell (Lk.c4 _); have l4 := HT4.out.lt; clear hb4 HT2))
  have hs1 : w.heap.size + 1 ≤ w1.heap.size := by have := HG1.out.size; simpa using this
  have HT5 := Lib.hid (show Box (w4.setCell ⟨w1.heap.size, 4, none⟩ (.int .i64 nf)) w1.heap.size (r.lkd.wh nf).cs 85 by
    rw [← r.lkd.wh_set r.lkd.h, r.lkd.wh_self]
    exact HT4.out.put 4 _)
  have HB5 := Lib.hid (show Below w.heap.size w (w4.setCell ⟨w1.heap.size, 4, none⟩ (.int .i64 nf)) from (bgr ((Below.refl _ _).alloc (by first | (simp; done) | (simp; omega) | omega) _) (by first | (simp; done) | (simp; omega) | omega) (Gr.tr HG1.out (Gr.tr HG2.out HG4.out))).setCell (by simp; omega) _)
  have hkl5 := (r.lkd.wh nf).cs_len
  have z5 : (r.lkd.wh nf).cs[4]? = some (.int .i64 nf) := Lk.c4 _
  clear z4 f4 l4 HT4 r0 r1 r2 r3 r4 rl
  have hs5 : w.heap.size ≤ w4.heap.size := by have := HG2.out.size; have := HG4.out.size; omega
  have hs6 : (w4.setCell ⟨w1.heap.size, 4, none⟩ (.int .i64 nf)).heap.size = w4.heap.size := by simp
  generalize w4.setCell ⟨w1.heap.size, 4, none⟩ (.int .i64 nf) = w5 at *
  refine region2 8 ?_ ?_ ?_
  · kernel_rfl
  · kernel_rfl
  simp only [List.take_succ_cons, List.take_zero, List.drop_succ_cons, List.drop_zero]
  apply chain_eq (D := [(5, none)]) rfl (by kernel_rfl)
  · intro ρ W4 ⟨p1, p2, p3⟩ hG hF K hK; (try simp [FactsD] at hF); have hD := Gr.tr (Gr.drew _) hG; rw [exec_loadBox row85 hkl5 (HT5.out.grow hD) rfl hF]; exact hK _ gives_val
  apply chain_any (V := (fun v W' => W'.ownsRow w.heap.size 55 2 v (r.lkd.wh nf).fst.length ((r.lkd.wh nf).fst.flatMap pv))) (D := [(18, some 0)]) rfl (by kernel_rfl) (fun v W W' h hg => own_gr h hg)
  · intro ρ W4 ⟨p1, p2, p3⟩ hG hF K hK; (try simp [FactsD] at hF); have hD := Gr.tr (Gr.drew _) hG; have hW4 := hD.size; go_simp; exact hK _ (gives_rel ((HFI.out _).mono fun e W' ⟨⟨v, h1, h2⟩, h3⟩ => ⟨⟨v, h1, own_base h2 (by omega)⟩, h3⟩))
  apply chain_eq (D := [(5, none)]) rfl (by kernel_rfl)
  · intro ρ W4 ⟨p1, p2, p3⟩ hG hF K hK; (try simp [FactsD] at hF); have hD := Gr.tr (Gr.drew _) hG; go_simp; exact hK _ (gives_val)
  apply chain_eq (D := [(20, some 0)]) rfl (by kernel_rfl)
  · intro ρ W4 ⟨p1, p2, p3⟩ hG hF K hK; (try simp [FactsD] at hF); have hD := Gr.tr (Gr.drew _) hG; go_simp; exact hK _ (gives_val)
  apply chain_eq (D := [(21, some 0)]) rfl (by kernel_rfl)
  · intro ρ W4 ⟨p1, p2, p3⟩ hG hF K hK; (try simp [FactsD] at hF); have hD := Gr.tr (Gr.drew _) hG; have q0 := (HT5.out.grow hD).cell z5; go_simp; exact hK _ (gives_val)
  apply chain_any (V := (fun v W' => W'.ownsRow w.heap.size 55 2 v (r.lkd.wh nf).fst.length ((r.lkd.wh nf).fst.flatMap pv))) (D := [(19, some 3)]) rfl (by kernel_rfl) (fun v W W' h hg => own_gr h hg)
  · intro ρ W4 ⟨p1, p2, p3⟩ hG hF K hK; (try simp [FactsD] at hF); have hD := Gr.tr (Gr.drew _) hG; go_simp; exact hK _ ⟨hF, Gr.same _⟩
  apply chain_eq (D := [(22, some 1)]) rfl (by kernel_rfl)
  · intro ρ W4 ⟨p1, p2, p3⟩ hG hF K hK; (try simp [FactsD] at hF); have hD := Gr.tr (Gr.drew _) hG; go_simp; exact hK _ (gives_val)
  apply chain_eq (D := []) rfl (by kernel_rfl)
  · intro ρ W4 ⟨p1, p2, p3⟩ hG hF K hK; (try simp [FactsD] at hF); have hD := Gr.tr (Gr.drew _) hG; go_simp; exact hK _ (gives_val)
  refine chain_done ?_
  intro vs W4 hG hV
  obtain ⟨e7, e6, e5, -⟩ := hV
  simp only [Nat.reduceSub] at e5 e6 e7
  simp only [lay, Act.put, List.getElem?_toArray, List.getElem?_cons_succ, List.getElem?_cons_zero, Option.bind_some, List.setIfInBounds_toArray, List.set_cons_succ, List.set_cons_zero]
  generalize vs 0 = v0
  generalize vs 1 = v1
  generalize vs 2 = v2
  generalize vs 3 = v3
  generalize vs 4 = v4
  generalize vs 5 = v5 at *
  generalize vs 6 = v6 at *
  generalize vs 7 = v7 at *
  subst e6
  subst e7
  go_wp2_with fail
  exact bodyPost_ret (v := .tuple #[v5, .int .i64 nf, .int .i64 0]) (by simp [results, Try.f20, go_sem]) rfl ⟨⟨_, rfl, e5⟩, bgr HB5.out (by omega) hG⟩
theorem Fewest_any (r : Rr) (w : World) (hl : MksAt r.L r.lp w) (hr : MksAt r.R r.rp w) :
    Calls Try.prog 20 #[r.val] w (FwPost w r.fewest.1 r.fewest.2.1 r.fewest.2.2) := by
  unfold Rr.fewest
  cases h : r.ok with
  | false => exact fewest_no r w hl hr h
  | true =>
    by_cases hz : r.lkd.all0 = 0
    · simp only [if_pos hz, if_true]
      exact fewest_zero r w hl hr h hz
    · simp only [if_neg hz, if_true]
      exact fewest_yes r w hl hr h hz

end Go.Proofs.Ytjlaoiimbhlafaa
end
section
namespace Go.Proofs.Ytjlaoiimbhlafaa
open Go.RowKit Go.Shelf

open MW
attribute [local go_sem] Oper.semAt_some run_store_func
theorem info3r : (Try.prog.info? 3).map (fun i => (i.zero, i.size, i.bytes)) = some (some (.int .i64 0), 1, 8) := by kernel_rfl
theorem Rr.q0 (r : Rr) : r.lkd.cs[0]? = some (.slice r.lp r.L.length r.lc) := rfl
theorem Rr.q1 (r : Rr) : r.lkd.cs[1]? = some (.slice r.rp r.R.length r.rc) := rfl
def vls (F : Nat → Int) (i n : Nat) : List Value := (List.range n).map fun j => .int .i64 (if j < i then F j else 0)
theorem vls_len (F : Nat → Int) (i n : Nat) : (vls F i n).length = n := by unfold vls; simp
theorem vls_zero (F : Nat → Int) (n : Nat) : (madeCells #[Value.int .i64 0] n) = (vls F 0 n).toArray := by
  apply Array.toList_inj.1
  rw [toList_madeCells_one]
  unfold vls
  apply List.ext_getElem?
  intro j
  by_cases hj : j < n
  · simp [hj]
  · simp [hj]
theorem vls_at (F : Nat → Int) {i n j : Nat} (h : j < n) : (vls F i n)[j]? = some (.int .i64 (if j < i then F j else 0)) := by unfold vls; simp [h]
theorem vls_set (F : Nat → Int) {i n : Nat} (h : i < n) : (vls F i n).set i (.int .i64 (F i)) = vls F (i + 1) n := by
  apply List.ext_getElem?
  intro j
  rw [List.getElem?_set]
  by_cases hij : i = j
  · subst hij
    rw [if_pos rfl, if_pos (by rw [vls_len]; exact h), vls_at F h, if_pos (Nat.lt_succ_self i)]
  · rw [if_neg hij]
    by_cases hj : j < n
    · rw [vls_at F hj, vls_at F hj]
      by_cases hji : j < i
      · rw [if_pos hji, if_pos (by omega)]
      · rw [if_neg hji, if_neg (by omega)]
    · unfold vls; simp [hj]
def ivs (l : List Int) : List Value := l.map fun x => .int .i64 x
theorem vls_full (F : Nat → Int) (n : Nat) : vls F n n = ivs ((List.range n).map F) := by
  unfold vls ivs
  rw [List.map_map]
  apply List.map_congr_left
  intro j hj
  simp [List.mem_range.1 hj]
/-- A row of ints of its own, and a number. -/
def InPost (w : World) (l : List Int) (c : Int) (e : Ending) (w' : World) : Prop := (∃ v, e = .returned (.tuple #[v, .int .i64 c]) ∧ w'.ownsRow w.heap.size 3 1 v l.length (ivs l)) ∧ Below w.heap.size w w'
theorem Box.owns {w : World} {g base : Nat} {l : List Int} (h : Box w g (ivs l) 3) (hb : base ≤ g) (hl : l.length ≤ 1000) : w.ownsRow base 3 1 (.slice (some ⟨g, 0, none⟩) l.length l.length) l.length (ivs l) := by
  have e : (ivs l).length = l.length := by unfold ivs; simp
  exact ⟨by rw [e]; omega, Or.inr ⟨g, l.length, (ivs l).toArray, rfl, hb, h, Nat.le_refl _, by unfold maxLen; omega, by simp [e], by rw [List.toList_toArray, List.take_of_length_le (by rw [e]; omega)]⟩⟩
set_option maxRecDepth 100000 in
set_option maxHeartbeats 2000000 in
theorem can_no (r : Rr) (w : World) (hl : MksAt r.L r.lp w) (hr : MksAt r.R r.rp w) (hok : r.ok = false) :
    Calls Try.prog 23 #[r.val] w (InPost w [] 1) := by
  have hzl := Lk.zero.cs_len
  have HR0 := Lib.hid (Box.fresh w r.cs 26)
  have HLK := Lib.hid (fun W (hg : Gr w W) => asks_any r W (hl.grow hg) (hr.grow hg))
  unfold Rr.cs at HR0
  unfold Rr.val at *
  have e0 : r.asked true = (Lk.zero, 1) := by unfold Rr.asked; rw [hok]; rfl
  rw [e0] at HLK
  clear hl hr e0
  dsimp only at HLK
  go_enter Try.func23, Try.ntmps23
  go_wp2_with (first | (with_reducible refine wpList_stopAlloc (ty := 85) rfl ?_; unfold Stop; refine wpList_alloc85 rfl rfl ?_) | (go_at_call 54; refine (HLK.out _ (Gr.alloc _ _)).mono ?_; rintro e w1 ⟨rfl, hb1⟩; have HG1 := Lib.hid (show Gr _ w1 from hb1); have HR1 := Lib.hid (HR0.out.grow hb1); have HT := Lib.hid (Box.fresh w1 Lk.zero.cs 85); clear hb1 HR0) | (with_reducible refine wpList_stopStore (ty := 85) rfl ?_; unfold Stop; refine wpList_storeBox row85 hzl hzl (lk_one _) HT.out rfl rfl rfl rfl ?_; have HT2 := Lib.hid (show Box ((w1.alloc (Obj.cells Lk.zero.cs.toArray 85)).setRow w1.heap.size Lk.zero.cs.toArray) w1.heap.size Lk.zero.cs 85 from HT.out.row (vs := Lk.zero.cs)); have HG2 := Lib.hid (show Gr w1 ((w1.alloc (Obj.cells Lk.zero.cs.toArray 85)).setRow w1.heap.size Lk.zero.cs.toArray) from Gr.row_new w1 _ _ _); generalize (w1.alloc (Obj.cells Lk.zero.cs.toArray 85)).setRow w1.heap.size Lk.zero.cs.toArray = w2 at *; have HR2 := Lib.hid (HR1.out.grow HG2.out); obtain ⟨r0, r1, r2, r3, r4⟩ := cells5 HR2.out; have rl := HR2.out.lt; clear HR1 HT))
  exact bodyPost_ret (v := .tuple #[.slice none 0 0, .int .i64 1]) (by simp [results, Try.f23, go_sem]) rfl ⟨⟨_, rfl, World.ownsRow_nil _ _ _ _⟩, (bgr ((Below.refl _ _).alloc (by first | (simp; done) | (simp; omega) | omega) _) (by first | (simp; done) | (simp; omega) | omega) (Gr.tr HG1.out HG2.out))⟩
set_option maxRecDepth 100000 in
set_option maxHeartbeats 2000000 in
theorem can_zero (r : Rr) (w : World) (hl : MksAt r.L r.lp w) (hr : MksAt r.R r.rp w) (hok : r.ok = true) (hz : r.lkd.all0 = 0) :
    Calls Try.prog 23 #[r.val] w (InPost w [] 4) := by
  have hzl := Lk.zero.cs_len
  have HR0 := Lib.hid (Box.fresh w r.cs 26)
  have HLK := Lib.hid (fun W (hg : Gr w W) => asks_any r W (hl.grow hg) (hr.grow hg))
  unfold Rr.cs at HR0
  unfold Rr.val at *
  have e0 : r.asked true = (Lk.zero, 4) := by unfold Rr.asked; rw [hok]; simp [hz]
  rw [e0] at HLK
  clear hl hr e0
  dsimp only at HLK
  go_enter Try.func23, Try.ntmps23
  go_wp2_with (first | (with_reducible refine wpList_stopAlloc (ty := 85) rfl ?_; unfold Stop; refine wpList_alloc85 rfl rfl ?_) | (go_at_call 54; refine (HLK.out _ (Gr.alloc _ _)).mono ?_; rintro e w1 ⟨rfl, hb1⟩; have HG1 := Lib.hid (show Gr _ w1 from hb1); have HR1 := Lib.hid (HR0.out.grow hb1); have HT := Lib.hid (Box.fresh w1 Lk.zero.cs 85); clear hb1 HR0) | (with_reducible refine wpList_stopStore (ty := 85) rfl ?_; unfold Stop; refine wpList_storeBox row85 hzl hzl (lk_one _) HT.out rfl rfl rfl rfl ?_; have HT2 := Lib.hid (show Box ((w1.alloc (Obj.cells Lk.zero.cs.toArray 85)).setRow w1.heap.size Lk.zero.cs.toArray) w1.heap.size Lk.zero.cs 85 from HT.out.row (vs := Lk.zero.cs)); have HG2 := Lib.hid (show Gr w1 ((w1.alloc (Obj.cells Lk.zero.cs.toArray 85)).setRow w1.heap.size Lk.zero.cs.toArray) from Gr.row_new w1 _ _ _); generalize (w1.alloc (Obj.cells Lk.zero.cs.toArray 85)).setRow w1.heap.size Lk.zero.cs.toArray = w2 at *; have HR2 := Lib.hid (HR1.out.grow HG2.out); obtain ⟨r0, r1, r2, r3, r4⟩ := cells5 HR2.out; have rl := HR2.out.lt; clear HR1 HT))
  exact bodyPost_ret (v := .tuple #[.slice none 0 0, .int .i64 4]) (by simp [results, Try.f23, go_sem]) rfl ⟨⟨_, rfl, World.ownsRow_nil _ _ _ _⟩, (bgr ((Below.refl _ _).alloc (by first | (simp; done) | (simp; omega) | omega) _) (by first | (simp; done) | (simp; omega) | omega) (Gr.tr HG1.out HG2.out))⟩
set_option maxRecDepth 100000 in
set_option maxHeartbeats 2000000 in
theorem can_yes (r : Rr) (w : World) (hl : MksAt r.L r.lp w) (hr : MksAt r.R r.rp w) (hok : r.ok = true) (hz : r.lkd.all0 ≠ 0) :
    Calls Try.prog 23 #[r.val] w (InPost w ((List.range r.L.length).map (fun j => (r.lkd.ptn j : Int))) 0) := by
  have hzl := Lk.zero.cs_len
  have HR0 := Lib.hid (Box.fresh w r.cs 26)
  have HLK := Lib.hid (fun W (hg : Gr w W) => asks_any r W (hl.grow hg) (hr.grow hg))
  unfold Rr.cs at HR0
  unfold Rr.val at *
  have e0 : r.asked true = (r.lkd, 0) := by unfold Rr.asked; rw [hok]; simp [hz]
  rw [e0] at HLK
  clear hl hr e0
  dsimp only at HLK
  have hkl := r.lkd.cs_len
  have HOK := Lib.hid (Rr.lkd_ok hok)
  have hL10 : r.L.length ≤ 10 := HOK.out.nL
  obtain ⟨i0, ii0, iz0, iz1, iz2⟩ := infoP info3r
  have II0 := Lib.hid ii0
  have IZ0 := Lib.hid iz0
  have IZ1 := Lib.hid iz1
  have IZ2 := Lib.hid iz2
  have hby : i0.bytes * r.L.length ≤ 281474976710656 := by rw [iz2]; omega
  have hb63 : r.L.length ≤ 9223372036854775807 := by omega
  clear ii0 iz0 iz1 iz2
  clear hz
  have HP := Lib.hid (fun i W (h : i < r.L.length) => partners_any r.lkd i W HOK.out h)
  obtain ⟨F, hF⟩ : ∃ F : Nat → Int, F = (fun j => (r.lkd.ptn j : Int)) := ⟨_, rfl⟩
  have HF := Lib.hid hF
  clear hF
  go_enter Try.func23, Try.ntmps23
  go_wp2_with (first | (with_reducible refine wpList_stopAlloc (ty := 85) rfl ?_; unfold Stop; refine wpList_alloc85 rfl rfl ?_) | (go_at_call 54; refine (HLK.out _ (Gr.alloc _ _)).mono ?_; rintro e w1 ⟨rfl, hb1⟩; have HG1 := Lib.hid (show Gr _ w1 from hb1); have HR1 := Lib.hid (HR0.out.grow hb1); have HT := Lib.hid (Box.fresh w1 Lk.zero.cs 85); clear hb1 HR0) | (with_reducible refine wpList_stopStore (ty := 85) rfl ?_; unfold Stop; refine wpList_storeBox row85 hkl hzl (lk_one _) HT.out rfl rfl rfl rfl ?_; have HT2 := Lib.hid (show Box ((w1.alloc (Obj.cells Lk.zero.cs.toArray 85)).setRow w1.heap.size r.lkd.cs.toArray) w1.heap.size r.lkd.cs 85 from HT.out.row (vs := r.lkd.cs)); have HG2 := Lib.hid (show Gr w1 ((w1.alloc (Obj.cells Lk.zero.cs.toArray 85)).setRow w1.heap.size r.lkd.cs.toArray) from Gr.row_new w1 _ _ _); generalize (w1.alloc (Obj.cells Lk.zero.cs.toArray 85)).setRow w1.heap.size r.lkd.cs.toArray = w2 at *; have HR2 := Lib.hid (HR1.out.grow HG2.out); obtain ⟨r0, r1, r2, r3, r4⟩ := cells5 HR2.out; have rl := HR2.out.lt; have t0 : w2.cell? ⟨w1.heap.size, 0, none⟩ = some (.slice r.lp r.L.length r.lc) := HT2.out.cell r.q0; have tl := HT2.out.lt; clear HR1 HT) | (at_make; refine wpList_make_row _ rfl _ _ 39 rfl 3 i0 (.int .i64 0) Try.underlying39 II0.out IZ0.out IZ1.out rfl .i64 .i64 r.L.length rfl rfl hby hb63 ?_))
  have hs1 : w.heap.size + 1 ≤ w1.heap.size := by have := HG1.out.size; simpa using this
  have hs2 : w1.heap.size < w2.heap.size := HT2.out.lt
  rw [vls_zero F]
  have HV := Lib.hid (Box.fresh w2 (vls F 0 r.L.length) 3)
  have HX := Lib.hid (HT2.out.grow (Gr.alloc w2 (Obj.cells (vls F 0 r.L.length).toArray 3)))
  have HBL := Lib.hid (show Below w.heap.size w (w2.alloc (Obj.cells (vls F 0 r.L.length).toArray 3)) from bgr ((Below.refl _ _).alloc (by first | (simp; done) | (simp; omega) | omega) _) (by first | (simp; done) | (simp; omega) | omega) ((Gr.tr HG1.out HG2.out).tr (Gr.alloc w2 (Obj.cells (vls F 0 r.L.length).toArray 3))))
  clear r0 r1 r2 r3 r4 rl HT2 HLK
  generalize hg2 : w2.heap.size = g at *
  generalize w2.alloc (Obj.cells (vls F 0 r.L.length).toArray 3) = w3 at *
  go_loopw [23] (fun t wr => ∃ i : Nat, i ≤ r.L.length ∧ t = .int .i64 i ∧ Hid (Box wr g (vls F i r.L.length) 3) ∧ Hid (Box wr w1.heap.size r.lkd.cs 85) ∧ Hid (Below w.heap.size w wr)) (fun t _ => (20 - intOf t).toNat)
  case atStart => exact ⟨0, Nat.zero_le _, rfl, HV, HX, HBL⟩
  case round =>
    clear HV HX HBL
    obtain ⟨i, hi, rfl, HV, HX, HBL⟩ := hrel
    by_cases hlt : i < r.L.length
    · have h1 : (i : Int) < r.L.length := by omega
      have HQ := Lib.hid (fun W => HP.out i W hlt)
      have hFi : F i = (fun j => (r.lkd.ptn j : Int)) i := by rw [HF.out]
      dsimp only at hFi
      have HFI := Lib.hid hFi
      rw [← hFi] at HQ
      clear hFi
      go_wp2_with (first | (with_reducible refine wpList_stopLoad (ty := 85) rfl ?_; unfold Stop; refine wpList_loadBox row85 (r.lkd.cs_len) (HX.out) rfl rfl rfl ?_) | (go_at_call 59; refine (HQ.out _).mono ?_; rintro e w4 ⟨rfl, hb4⟩; have HG4 := Lib.hid (show Gr _ w4 from hb4); have HV4 := Lib.hid (HV.out.grow hb4); have f4 := HV4.out.free (i := i); have z4 := HV4.out.cell (vls_at F hlt); have l4 := HV4.out.lt; clear hb4))
      have ho := Only.set w4 (b := g) i (.int .i64 (F i))
      have hv := HV4.out.put i (.int .i64 (F i))
      rw [vls_set F hlt] at hv
      exact ⟨⟨i + 1, by omega, by go_num, Lib.hid hv, Lib.hid (ho.box (HX.out.grow HG4.out) (by omega)), Lib.hid ((bgr HBL.out HBL.out.size HG4.out).setCell (by simp; omega) _)⟩, by simp [intOf]; omega⟩
    · have hin : i = r.L.length := by omega
      subst hin
      go_wp2_with fail
      have hv := HV.out
      rw [vls_full, HF.out] at hv
      have := Box.owns hv (show w.heap.size ≤ g by omega) (by simp; omega)
      refine bodyPost_ret (v := .tuple #[.slice (some ⟨g, 0, none⟩) r.L.length r.L.length, .int .i64 0]) (by simp [results, Try.f23, go_sem]) rfl ⟨⟨.slice (some ⟨g, 0, none⟩) r.L.length r.L.length, rfl, ?_⟩, HBL.out⟩
      simp only [List.length_map, List.length_range] at this ⊢
      exact this
/-- What Can tells. -/
def Rr.can (r : Rr) : List Int × Int := if r.ok then (if r.lkd.all0 = 0 then ([], 4) else ((List.range r.L.length).map (fun j => (r.lkd.ptn j : Int)), 0)) else ([], 1)
theorem Can_any (r : Rr) (w : World) (hl : MksAt r.L r.lp w) (hr : MksAt r.R r.rp w) :
    Calls Try.prog 23 #[r.val] w (InPost w r.can.1 r.can.2) := by
  unfold Rr.can
  cases h : r.ok with
  | false => exact can_no r w hl hr h
  | true =>
    by_cases hz : r.lkd.all0 = 0
    · simp only [if_pos hz, if_true]
      exact can_zero r w hl hr h hz
    · simp only [if_neg hz, if_true]
      exact can_yes r w hl hr h hz
set_option maxRecDepth 100000 in
set_option maxHeartbeats 2000000 in
theorem surely_no (r : Rr) (w : World) (hl : MksAt r.L r.lp w) (hr : MksAt r.R r.rp w) (hok : r.ok = false) :
    Calls Try.prog 25 #[r.val] w (InPost w [] 1) := by
  have hzl := Lk.zero.cs_len
  have HR0 := Lib.hid (Box.fresh w r.cs 26)
  have HLK := Lib.hid (fun W (hg : Gr w W) => asks_any r W (hl.grow hg) (hr.grow hg))
  unfold Rr.cs at HR0
  unfold Rr.val at *
  have e0 : r.asked true = (Lk.zero, 1) := by unfold Rr.asked; rw [hok]; rfl
  rw [e0] at HLK
  clear hl hr e0
  dsimp only at HLK
  go_enter Try.func25, Try.ntmps25
  go_wp2_with (first | (with_reducible refine wpList_stopAlloc (ty := 85) rfl ?_; unfold Stop; refine wpList_alloc85 rfl rfl ?_) | (go_at_call 54; refine (HLK.out _ (Gr.alloc _ _)).mono ?_; rintro e w1 ⟨rfl, hb1⟩; have HG1 := Lib.hid (show Gr _ w1 from hb1); have HR1 := Lib.hid (HR0.out.grow hb1); have HT := Lib.hid (Box.fresh w1 Lk.zero.cs 85); clear hb1 HR0) | (with_reducible refine wpList_stopStore (ty := 85) rfl ?_; unfold Stop; refine wpList_storeBox row85 hzl hzl (lk_one _) HT.out rfl rfl rfl rfl ?_; have HT2 := Lib.hid (show Box ((w1.alloc (Obj.cells Lk.zero.cs.toArray 85)).setRow w1.heap.size Lk.zero.cs.toArray) w1.heap.size Lk.zero.cs 85 from HT.out.row (vs := Lk.zero.cs)); have HG2 := Lib.hid (show Gr w1 ((w1.alloc (Obj.cells Lk.zero.cs.toArray 85)).setRow w1.heap.size Lk.zero.cs.toArray) from Gr.row_new w1 _ _ _); generalize (w1.alloc (Obj.cells Lk.zero.cs.toArray 85)).setRow w1.heap.size Lk.zero.cs.toArray = w2 at *; have HR2 := Lib.hid (HR1.out.grow HG2.out); obtain ⟨r0, r1, r2, r3, r4⟩ := cells5 HR2.out; have rl := HR2.out.lt; clear HR1 HT))
  exact bodyPost_ret (v := .tuple #[.slice none 0 0, .int .i64 1]) (by simp [results, Try.f25, go_sem]) rfl ⟨⟨_, rfl, World.ownsRow_nil _ _ _ _⟩, (bgr ((Below.refl _ _).alloc (by first | (simp; done) | (simp; omega) | omega) _) (by first | (simp; done) | (simp; omega) | omega) (Gr.tr HG1.out HG2.out))⟩
set_option maxRecDepth 100000 in
set_option maxHeartbeats 2000000 in
theorem surely_zero (r : Rr) (w : World) (hl : MksAt r.L r.lp w) (hr : MksAt r.R r.rp w) (hok : r.ok = true) (hz : r.lkd.all0 = 0) :
    Calls Try.prog 25 #[r.val] w (InPost w [] 4) := by
  have hzl := Lk.zero.cs_len
  have HR0 := Lib.hid (Box.fresh w r.cs 26)
  have HLK := Lib.hid (fun W (hg : Gr w W) => asks_any r W (hl.grow hg) (hr.grow hg))
  unfold Rr.cs at HR0
  unfold Rr.val at *
  have e0 : r.asked true = (Lk.zero, 4) := by unfold Rr.asked; rw [hok]; simp [hz]
  rw [e0] at HLK
  clear hl hr e0
  dsimp only at HLK
  go_enter Try.func25, Try.ntmps25
  go_wp2_with (first | (with_reducible refine wpList_stopAlloc (ty := 85) rfl ?_; unfold Stop; refine wpList_alloc85 rfl rfl ?_) | (go_at_call 54; refine (HLK.out _ (Gr.alloc _ _)).mono ?_; rintro e w1 ⟨rfl, hb1⟩; have HG1 := Lib.hid (show Gr _ w1 from hb1); have HR1 := Lib.hid (HR0.out.grow hb1); have HT := Lib.hid (Box.fresh w1 Lk.zero.cs 85); clear hb1 HR0) | (with_reducible refine wpList_stopStore (ty := 85) rfl ?_; unfold Stop; refine wpList_storeBox row85 hzl hzl (lk_one _) HT.out rfl rfl rfl rfl ?_; have HT2 := Lib.hid (show Box ((w1.alloc (Obj.cells Lk.zero.cs.toArray 85)).setRow w1.heap.size Lk.zero.cs.toArray) w1.heap.size Lk.zero.cs 85 from HT.out.row (vs := Lk.zero.cs)); have HG2 := Lib.hid (show Gr w1 ((w1.alloc (Obj.cells Lk.zero.cs.toArray 85)).setRow w1.heap.size Lk.zero.cs.toArray) from Gr.row_new w1 _ _ _); generalize (w1.alloc (Obj.cells Lk.zero.cs.toArray 85)).setRow w1.heap.size Lk.zero.cs.toArray = w2 at *; have HR2 := Lib.hid (HR1.out.grow HG2.out); obtain ⟨r0, r1, r2, r3, r4⟩ := cells5 HR2.out; have rl := HR2.out.lt; clear HR1 HT))
  exact bodyPost_ret (v := .tuple #[.slice none 0 0, .int .i64 4]) (by simp [results, Try.f25, go_sem]) rfl ⟨⟨_, rfl, World.ownsRow_nil _ _ _ _⟩, (bgr ((Below.refl _ _).alloc (by first | (simp; done) | (simp; omega) | omega) _) (by first | (simp; done) | (simp; omega) | omega) (Gr.tr HG1.out HG2.out))⟩
set_option maxRecDepth 100000 in
set_option maxHeartbeats 2000000 in
theorem surely_yes (r : Rr) (w : World) (hl : MksAt r.L r.lp w) (hr : MksAt r.R r.rp w) (hok : r.ok = true) (hz : r.lkd.all0 ≠ 0) :
    Calls Try.prog 25 #[r.val] w (InPost w ((List.range r.L.length).map (fun j => r.lkd.surTo j r.lkd.nR)) 0) := by
  have hzl := Lk.zero.cs_len
  have HR0 := Lib.hid (Box.fresh w r.cs 26)
  have HLK := Lib.hid (fun W (hg : Gr w W) => asks_any r W (hl.grow hg) (hr.grow hg))
  unfold Rr.cs at HR0
  unfold Rr.val at *
  have e0 : r.asked true = (r.lkd, 0) := by unfold Rr.asked; rw [hok]; simp [hz]
  rw [e0] at HLK
  clear hl hr e0
  dsimp only at HLK
  have hkl := r.lkd.cs_len
  have HOK := Lib.hid (Rr.lkd_ok hok)
  have hL10 : r.L.length ≤ 10 := HOK.out.nL
  obtain ⟨i0, ii0, iz0, iz1, iz2⟩ := infoP info3r
  have II0 := Lib.hid ii0
  have IZ0 := Lib.hid iz0
  have IZ1 := Lib.hid iz1
  have IZ2 := Lib.hid iz2
  have hby : i0.bytes * r.L.length ≤ 281474976710656 := by rw [iz2]; omega
  have hb63 : r.L.length ≤ 9223372036854775807 := by omega
  clear ii0 iz0 iz1 iz2
  clear hz
  have HP := Lib.hid (fun i W (h : i < r.L.length) => surePartner_any r.lkd i W HOK.out h)
  obtain ⟨F, hF⟩ : ∃ F : Nat → Int, F = (fun j => r.lkd.surTo j r.lkd.nR) := ⟨_, rfl⟩
  have HF := Lib.hid hF
  clear hF
  go_enter Try.func25, Try.ntmps25
  go_wp2_with (first | (with_reducible refine wpList_stopAlloc (ty := 85) rfl ?_; unfold Stop; refine wpList_alloc85 rfl rfl ?_) | (go_at_call 54; refine (HLK.out _ (Gr.alloc _ _)).mono ?_; rintro e w1 ⟨rfl, hb1⟩; have HG1 := Lib.hid (show Gr _ w1 from hb1); have HR1 := Lib.hid (HR0.out.grow hb1); have HT := Lib.hid (Box.fresh w1 Lk.zero.cs 85); clear hb1 HR0) | (with_reducible refine wpList_stopStore (ty := 85) rfl ?_; unfold Stop; refine wpList_storeBox row85 hkl hzl (lk_one _) HT.out rfl rfl rfl rfl ?_; have HT2 := Lib.hid (show Box ((w1.alloc (Obj.cells Lk.zero.cs.toArray 85)).setRow w1.heap.size r.lkd.cs.toArray) w1.heap.size r.lkd.cs 85 from HT.out.row (vs := r.lkd.cs)); have HG2 := Lib.hid (show Gr w1 ((w1.alloc (Obj.cells Lk.zero.cs.toArray 85)).setRow w1.heap.size r.lkd.cs.toArray) from Gr.row_new w1 _ _ _); generalize (w1.alloc (Obj.cells Lk.zero.cs.toArray 85)).setRow w1.heap.size r.lkd.cs.toArray = w2 at *; have HR2 := Lib.hid (HR1.out.grow HG2.out); obtain ⟨r0, r1, r2, r3, r4⟩ := cells5 HR2.out; have rl := HR2.out.lt; have t0 : w2.cell? ⟨w1.heap.size, 0, none⟩ = some (.slice r.lp r.L.length r.lc) := HT2.out.cell r.q0; have tl := HT2.out.lt; clear HR1 HT) | (at_make; refine wpList_make_row _ rfl _ _ 39 rfl 3 i0 (.int .i64 0) Try.underlying39 II0.out IZ0.out IZ1.out rfl .i64 .i64 r.L.length rfl rfl hby hb63 ?_))
  have hs1 : w.heap.size + 1 ≤ w1.heap.size := by have := HG1.out.size; simpa using this
  have hs2 : w1.heap.size < w2.heap.size := HT2.out.lt
  rw [vls_zero F]
  have HV := Lib.hid (Box.fresh w2 (vls F 0 r.L.length) 3)
  have HX := Lib.hid (HT2.out.grow (Gr.alloc w2 (Obj.cells (vls F 0 r.L.length).toArray 3)))
  have HBL := Lib.hid (show Below w.heap.size w (w2.alloc (Obj.cells (vls F 0 r.L.length).toArray 3)) from bgr ((Below.refl _ _).alloc (by first | (simp; done) | (simp; omega) | omega) _) (by first | (simp; done) | (simp; omega) | omega) ((Gr.tr HG1.out HG2.out).tr (Gr.alloc w2 (Obj.cells (vls F 0 r.L.length).toArray 3))))
  clear r0 r1 r2 r3 r4 rl HT2 HLK
  generalize hg2 : w2.heap.size = g at *
  generalize w2.alloc (Obj.cells (vls F 0 r.L.length).toArray 3) = w3 at *
  go_loopw [23] (fun t wr => ∃ i : Nat, i ≤ r.L.length ∧ t = .int .i64 i ∧ Hid (Box wr g (vls F i r.L.length) 3) ∧ Hid (Box wr w1.heap.size r.lkd.cs 85) ∧ Hid (Below w.heap.size w wr)) (fun t _ => (20 - intOf t).toNat)
  case atStart => exact ⟨0, Nat.zero_le _, rfl, HV, HX, HBL⟩
  case round =>
    clear HV HX HBL
    obtain ⟨i, hi, rfl, HV, HX, HBL⟩ := hrel
    by_cases hlt : i < r.L.length
    · have h1 : (i : Int) < r.L.length := by omega
      have HQ := Lib.hid (fun W => HP.out i W hlt)
      have hFi : F i = (fun j => r.lkd.surTo j r.lkd.nR) i := by rw [HF.out]
      dsimp only at hFi
      have HFI := Lib.hid hFi
      rw [← hFi] at HQ
      clear hFi
      go_wp2_with (first | (with_reducible refine wpList_stopLoad (ty := 85) rfl ?_; unfold Stop; refine wpList_loadBox row85 (r.lkd.cs_len) (HX.out) rfl rfl rfl ?_) | (go_at_call 61; refine (HQ.out _).mono ?_; rintro e w4 ⟨rfl, hb4⟩; have HG4 := Lib.hid (show Gr _ w4 from hb4); have HV4 := Lib.hid (HV.out.grow hb4); have f4 := HV4.out.free (i := i); have z4 := HV4.out.cell (vls_at F hlt); have l4 := HV4.out.lt; clear hb4))
      have ho := Only.set w4 (b := g) i (.int .i64 (F i))
      have hv := HV4.out.put i (.int .i64 (F i))
      rw [vls_set F hlt] at hv
      exact ⟨⟨i + 1, by omega, by go_num, Lib.hid hv, Lib.hid (ho.box (HX.out.grow HG4.out) (by omega)), Lib.hid ((bgr HBL.out HBL.out.size HG4.out).setCell (by simp; omega) _)⟩, by simp [intOf]; omega⟩
    · have hin : i = r.L.length := by omega
      subst hin
      go_wp2_with fail
      have hv := HV.out
      rw [vls_full, HF.out] at hv
      have := Box.owns hv (show w.heap.size ≤ g by omega) (by simp; omega)
      refine bodyPost_ret (v := .tuple #[.slice (some ⟨g, 0, none⟩) r.L.length r.L.length, .int .i64 0]) (by simp [results, Try.f25, go_sem]) rfl ⟨⟨.slice (some ⟨g, 0, none⟩) r.L.length r.L.length, rfl, ?_⟩, HBL.out⟩
      simp only [List.length_map, List.length_range] at this ⊢
      exact this
/-- What Sure tells. -/
def Rr.surely (r : Rr) : List Int × Int := if r.ok then (if r.lkd.all0 = 0 then ([], 4) else ((List.range r.L.length).map (fun j => r.lkd.surTo j r.lkd.nR), 0)) else ([], 1)
theorem Sure_any (r : Rr) (w : World) (hl : MksAt r.L r.lp w) (hr : MksAt r.R r.rp w) :
    Calls Try.prog 25 #[r.val] w (InPost w r.surely.1 r.surely.2) := by
  unfold Rr.surely
  cases h : r.ok with
  | false => exact surely_no r w hl hr h
  | true =>
    by_cases hz : r.lkd.all0 = 0
    · simp only [if_pos hz, if_true]
      exact surely_zero r w hl hr h hz
    · simp only [if_neg hz, if_true]
      exact surely_yes r w hl hr h hz

end Go.Proofs.Ytjlaoiimbhlafaa
end
