import Derived.Test.YtjlaoiimbhlafaaPA
import Derived.Test.YtjlaoiimbhlafaaP4
set_option linter.unusedVariables false
set_option linter.unusedSimpArgs false
section
namespace Go.Proofs.Ytjlaoiimbhlafaa
open Go.RowKit Go.Shelf

open MW
attribute [local go_sem] Oper.semAt_some run_store_func
theorem fstMin_le (f : Nat → Nat) (top B : Nat) (h0 : top ≤ B) (h : ∀ j, f j ≤ B) : ∀ n, (fstMin f top n).1 ≤ n ∧ (fstMin f top n).2 ≤ B
  | 0 => ⟨Nat.le_refl _, h0⟩
  | n + 1 => by
    rw [fstMin_succ]
    have := fstMin_le f top B h0 h n
    split
    · exact ⟨Nat.le_succ _, h n⟩
    · exact ⟨by omega, this.2⟩
theorem spl_le (k : Lk) (i c : Nat) (hL : k.nL ≤ 10) (hR : k.nR ≤ 10) : k.spl i c ≤ 25937424601 := by
  unfold Lk.spl
  split
  · unfold Lk.spv
    repeat' split
    all_goals first | exact cw_small _ _ _ _ hL hR | omega
  · omega
theorem mxl_le {f : Nat → Nat} {B : Nat} (h : ∀ j, f j ≤ B) (l : List Nat) : mxl f l ≤ B := (mxl_from f l 0 B).2 ⟨Nat.zero_le _, fun k _ => h k⟩
theorem HLE (k : Lk) (i : Nat) (hk : k.Ok) : k.lvs i ≤ 25937424601 := mxl_le (fun j => spl_le k i j hk.nL hk.nR) _
set_option maxRecDepth 100000 in
set_option maxHeartbeats 2000000 in
theorem ask_no (r : Rr) (w : World) (hl : MksAt r.L r.lp w) (hr : MksAt r.R r.rp w) (hok : r.ok = false) :
    Calls Try.prog 32 #[r.val] w fun e w' => e = .returned (.tuple #[.int .i64 0, .int .i64 0, .int .i64 1]) ∧ Below w.heap.size w w' := by
  have hzl := Lk.zero.cs_len
  have HR0 := Lib.hid (Box.fresh w r.cs 26)
  have HLK := Lib.hid (fun W (hg : Gr w W) => asks_any r W (hl.grow hg) (hr.grow hg))
  unfold Rr.cs at HR0
  unfold Rr.val at *
  have e0 : r.asked true = (Lk.zero, 1) := by unfold Rr.asked; rw [hok]; rfl
  rw [e0] at HLK
  clear hl hr e0
  dsimp only at HLK
  go_enter Try.func32, Try.ntmps32
  go_wp2_with (first | (with_reducible refine wpList_stopAlloc (ty := 85) rfl ?_; unfold Stop; refine wpList_alloc85 rfl rfl ?_) | (go_at_call 54; refine (HLK.out _ (Gr.alloc _ _)).mono ?_; rintro e w1 ⟨rfl, hb1⟩; have HG1 := Lib.hid (show Gr _ w1 from hb1); have HR1 := Lib.hid (HR0.out.grow hb1); have HT := Lib.hid (Box.fresh w1 Lk.zero.cs 85); clear hb1 HR0) | (with_reducible refine wpList_stopStore (ty := 85) rfl ?_; unfold Stop; refine wpList_storeBox row85 hzl hzl (lk_one _) HT.out rfl rfl rfl rfl ?_; have HT2 := Lib.hid (show Box ((w1.alloc (Obj.cells Lk.zero.cs.toArray 85)).setRow w1.heap.size Lk.zero.cs.toArray) w1.heap.size Lk.zero.cs 85 from HT.out.row (vs := Lk.zero.cs)); have HG2 := Lib.hid (show Gr w1 ((w1.alloc (Obj.cells Lk.zero.cs.toArray 85)).setRow w1.heap.size Lk.zero.cs.toArray) from Gr.row_new w1 _ _ _); generalize (w1.alloc (Obj.cells Lk.zero.cs.toArray 85)).setRow w1.heap.size Lk.zero.cs.toArray = w2 at *; have HR2 := Lib.hid (HR1.out.grow HG2.out); obtain ⟨r0, r1, r2, r3, r4⟩ := cells5 HR2.out; have rl := HR2.out.lt; clear HR1 HT))
  exact bodyPost_ret (v := .tuple #[.int .i64 0, .int .i64 0, .int .i64 1]) (by simp [results, Try.f32, go_sem]) rfl ⟨rfl, (bgr ((Below.refl _ _).alloc (by first | (simp; done) | (simp; omega) | omega) _) (by first | (simp; done) | (simp; omega) | omega) (Gr.tr HG1.out HG2.out))⟩
set_option maxRecDepth 100000 in
set_option maxHeartbeats 2000000 in
theorem ask_zero (r : Rr) (w : World) (hl : MksAt r.L r.lp w) (hr : MksAt r.R r.rp w) (hok : r.ok = true) (hz : r.lkd.all0 = 0) :
    Calls Try.prog 32 #[r.val] w fun e w' => e = .returned (.tuple #[.int .i64 0, .int .i64 0, .int .i64 4]) ∧ Below w.heap.size w w' := by
  have hzl := Lk.zero.cs_len
  have HR0 := Lib.hid (Box.fresh w r.cs 26)
  have HLK := Lib.hid (fun W (hg : Gr w W) => asks_any r W (hl.grow hg) (hr.grow hg))
  unfold Rr.cs at HR0
  unfold Rr.val at *
  have e0 : r.asked true = (Lk.zero, 4) := by unfold Rr.asked; rw [hok]; simp [hz]
  rw [e0] at HLK
  clear hl hr e0
  dsimp only at HLK
  go_enter Try.func32, Try.ntmps32
  go_wp2_with (first | (with_reducible refine wpList_stopAlloc (ty := 85) rfl ?_; unfold Stop; refine wpList_alloc85 rfl rfl ?_) | (go_at_call 54; refine (HLK.out _ (Gr.alloc _ _)).mono ?_; rintro e w1 ⟨rfl, hb1⟩; have HG1 := Lib.hid (show Gr _ w1 from hb1); have HR1 := Lib.hid (HR0.out.grow hb1); have HT := Lib.hid (Box.fresh w1 Lk.zero.cs 85); clear hb1 HR0) | (with_reducible refine wpList_stopStore (ty := 85) rfl ?_; unfold Stop; refine wpList_storeBox row85 hzl hzl (lk_one _) HT.out rfl rfl rfl rfl ?_; have HT2 := Lib.hid (show Box ((w1.alloc (Obj.cells Lk.zero.cs.toArray 85)).setRow w1.heap.size Lk.zero.cs.toArray) w1.heap.size Lk.zero.cs 85 from HT.out.row (vs := Lk.zero.cs)); have HG2 := Lib.hid (show Gr w1 ((w1.alloc (Obj.cells Lk.zero.cs.toArray 85)).setRow w1.heap.size Lk.zero.cs.toArray) from Gr.row_new w1 _ _ _); generalize (w1.alloc (Obj.cells Lk.zero.cs.toArray 85)).setRow w1.heap.size Lk.zero.cs.toArray = w2 at *; have HR2 := Lib.hid (HR1.out.grow HG2.out); obtain ⟨r0, r1, r2, r3, r4⟩ := cells5 HR2.out; have rl := HR2.out.lt; clear HR1 HT))
  exact bodyPost_ret (v := .tuple #[.int .i64 0, .int .i64 0, .int .i64 4]) (by simp [results, Try.f32, go_sem]) rfl ⟨rfl, (bgr ((Below.refl _ _).alloc (by first | (simp; done) | (simp; omega) | omega) _) (by first | (simp; done) | (simp; omega) | omega) (Gr.tr HG1.out HG2.out))⟩
set_option maxRecDepth 100000 in
set_option maxHeartbeats 2000000 in
theorem ask_one (r : Rr) (w : World) (hl : MksAt r.L r.lp w) (hr : MksAt r.R r.rp w) (hok : r.ok = true) (hz : r.lkd.all0 ≠ 0) (h1 : (r.lkd.all0 == 1) = true) :
    Calls Try.prog 32 #[r.val] w fun e w' => e = .returned (.tuple #[.int .i64 0, .int .i64 0, .int .i64 4]) ∧ Below w.heap.size w w' := by
  have hzl := Lk.zero.cs_len
  have HR0 := Lib.hid (Box.fresh w r.cs 26)
  have HLK := Lib.hid (fun W (hg : Gr w W) => asks_any r W (hl.grow hg) (hr.grow hg))
  unfold Rr.cs at HR0
  unfold Rr.val at *
  have e0 : r.asked true = (r.lkd, 0) := by unfold Rr.asked; rw [hok]; simp [hz]
  rw [e0] at HLK
  clear hl hr e0
  dsimp only at HLK
  have hkl := r.lkd.cs_len
  have HOK := Lib.hid (Rr.lkd_ok hok)
  have hL10 : r.L.length ≤ 10 := HOK.out.nL
  have HC := Lib.hid (fun W => count_any r.lkd r.lkd.all HOK.out.m HOK.out.r HOK.out.nL HOK.out.nR HOK.out.h W)
  have hc0 : r.lkd.wy r.lkd.all 0 0 r.lkd.h = r.lkd.all0 := rfl
  rw [hc0] at HC
  have hsm : r.lkd.all0 ≤ 25937424601 := cw_small _ _ _ _ HOK.out.nL HOK.out.nR
  have h1' : ((r.lkd.all0 : Int) == 1) = true := by rw [← h1, Bool.eq_iff_iff, beq_iff_eq, beq_iff_eq]; omega
  have HA := Lib.hid (fun i W (h : i < r.L.length) => leaves_any r.lkd i W HOK.out h)
  have HLS := Lib.hid (fun i => show r.lkd.lvs i ≤ 25937424601 from HLE r.lkd i HOK.out)
  generalize r.lkd.all0 = al at *
  clear hz hc0 h1
  go_enter Try.func32, Try.ntmps32
  go_wp2_with (first | (with_reducible refine wpList_stopAlloc (ty := 85) rfl ?_; unfold Stop; refine wpList_alloc85 rfl rfl ?_) | (go_at_call 54; refine (HLK.out _ (Gr.alloc _ _)).mono ?_; rintro e w1 ⟨rfl, hb1⟩; have HG1 := Lib.hid (show Gr _ w1 from hb1); have HR1 := Lib.hid (HR0.out.grow hb1); have HT := Lib.hid (Box.fresh w1 Lk.zero.cs 85); clear hb1 HR0) | (with_reducible refine wpList_stopStore (ty := 85) rfl ?_; unfold Stop; refine wpList_storeBox row85 hkl hzl (lk_one _) HT.out rfl rfl rfl rfl ?_; have HT2 := Lib.hid (show Box ((w1.alloc (Obj.cells Lk.zero.cs.toArray 85)).setRow w1.heap.size r.lkd.cs.toArray) w1.heap.size r.lkd.cs 85 from HT.out.row (vs := r.lkd.cs)); have HG2 := Lib.hid (show Gr w1 ((w1.alloc (Obj.cells Lk.zero.cs.toArray 85)).setRow w1.heap.size r.lkd.cs.toArray) from Gr.row_new w1 _ _ _); generalize (w1.alloc (Obj.cells Lk.zero.cs.toArray 85)).setRow w1.heap.size r.lkd.cs.toArray = w2 at *; have HR2 := Lib.hid (HR1.out.grow HG2.out); obtain ⟨r0, r1, r2, r3, r4⟩ := cells5 HR2.out; have rl := HR2.out.lt; have t0 : w2.cell? ⟨w1.heap.size, 0, none⟩ = some (.slice r.lp r.L.length r.lc) := HT2.out.cell r.q0; have tl := HT2.out.lt; clear HR1 HT) | (with_reducible refine wpList_stopLoad (ty := 85) rfl ?_; unfold Stop; refine wpList_loadBox row85 (r.lkd.cs_len) (HT2.out) rfl rfl rfl ?_) | (with_reducible refine wpList_stopLoad (ty := 83) rfl ?_; unfold Stop; refine wpList_loadPart row83 (opts_len r.lkd.all) (HT2.out) r.lkd.part rfl rfl rfl ?_) | (go_at_call 52; refine (HC.out _).mono ?_; rintro e w4 ⟨rfl, hb4⟩; have HG4 := Lib.hid (show Gr _ w4 from hb4); have HT4 := Lib.hid (HT2.out.grow hb4); have t4 := HT4.out.cell r.q0; have tl4 := HT4.out.lt; clear hb4))
  exact bodyPost_ret (v := .tuple #[.int .i64 0, .int .i64 0, .int .i64 4]) (by simp [results, Try.f32, go_sem]) rfl ⟨rfl, (bgr ((Below.refl _ _).alloc (by first | (simp; done) | (simp; omega) | omega) _) (by first | (simp; done) | (simp; omega) | omega) (Gr.tr (Gr.tr HG1.out HG2.out) HG4.out))⟩
set_option maxRecDepth 100000 in
set_option maxHeartbeats 2000000 in
theorem ask_yes (r : Rr) (w : World) (hl : MksAt r.L r.lp w) (hr : MksAt r.R r.rp w) (hok : r.ok = true) (hz : r.lkd.all0 ≠ 0) (h1 : (r.lkd.all0 == 1) = false) :
    Calls Try.prog 32 #[r.val] w fun e w' => e = .returned (.tuple #[.int .i64 (fstMin r.lkd.lvs (r.lkd.all0 + 1) r.L.length).1, .int .i64 (fstMin r.lkd.lvs (r.lkd.all0 + 1) r.L.length).2, .int .i64 0]) ∧ Below w.heap.size w w' := by
  have hzl := Lk.zero.cs_len
  have HR0 := Lib.hid (Box.fresh w r.cs 26)
  have HLK := Lib.hid (fun W (hg : Gr w W) => asks_any r W (hl.grow hg) (hr.grow hg))
  unfold Rr.cs at HR0
  unfold Rr.val at *
  have e0 : r.asked true = (r.lkd, 0) := by unfold Rr.asked; rw [hok]; simp [hz]
  rw [e0] at HLK
  clear hl hr e0
  dsimp only at HLK
  have hkl := r.lkd.cs_len
  have HOK := Lib.hid (Rr.lkd_ok hok)
  have hL10 : r.L.length ≤ 10 := HOK.out.nL
  have HC := Lib.hid (fun W => count_any r.lkd r.lkd.all HOK.out.m HOK.out.r HOK.out.nL HOK.out.nR HOK.out.h W)
  have hc0 : r.lkd.wy r.lkd.all 0 0 r.lkd.h = r.lkd.all0 := rfl
  rw [hc0] at HC
  have hsm : r.lkd.all0 ≤ 25937424601 := cw_small _ _ _ _ HOK.out.nL HOK.out.nR
  have h1' : ((r.lkd.all0 : Int) == 1) = false := by rw [← h1, Bool.eq_iff_iff, beq_iff_eq, beq_iff_eq]; omega
  have HA := Lib.hid (fun i W (h : i < r.L.length) => leaves_any r.lkd i W HOK.out h)
  have HLS := Lib.hid (fun i => show r.lkd.lvs i ≤ 25937424601 from HLE r.lkd i HOK.out)
  generalize r.lkd.all0 = al at *
  clear hz hc0 h1
  go_enter Try.func32, Try.ntmps32
  go_wp2_with (first | (with_reducible refine wpList_stopAlloc (ty := 85) rfl ?_; unfold Stop; refine wpList_alloc85 rfl rfl ?_) | (go_at_call 54; refine (HLK.out _ (Gr.alloc _ _)).mono ?_; rintro e w1 ⟨rfl, hb1⟩; have HG1 := Lib.hid (show Gr _ w1 from hb1); have HR1 := Lib.hid (HR0.out.grow hb1); have HT := Lib.hid (Box.fresh w1 Lk.zero.cs 85); clear hb1 HR0) | (with_reducible refine wpList_stopStore (ty := 85) rfl ?_; unfold Stop; refine wpList_storeBox row85 hkl hzl (lk_one _) HT.out rfl rfl rfl rfl ?_; have HT2 := Lib.hid (show Box ((w1.alloc (Obj.cells Lk.zero.cs.toArray 85)).setRow w1.heap.size r.lkd.cs.toArray) w1.heap.size r.lkd.cs 85 from HT.out.row (vs := r.lkd.cs)); have HG2 := Lib.hid (show Gr w1 ((w1.alloc (Obj.cells Lk.zero.cs.toArray 85)).setRow w1.heap.size r.lkd.cs.toArray) from Gr.row_new w1 _ _ _); generalize (w1.alloc (Obj.cells Lk.zero.cs.toArray 85)).setRow w1.heap.size r.lkd.cs.toArray = w2 at *; have HR2 := Lib.hid (HR1.out.grow HG2.out); obtain ⟨r0, r1, r2, r3, r4⟩ := cells5 HR2.out; have rl := HR2.out.lt; have t0 : w2.cell? ⟨w1.heap.size, 0, none⟩ = some (.slice r.lp r.L.length r.lc) := HT2.out.cell r.q0; have tl := HT2.out.lt; clear HR1 HT) | (with_reducible refine wpList_stopLoad (ty := 85) rfl ?_; unfold Stop; refine wpList_loadBox row85 (r.lkd.cs_len) (HT2.out) rfl rfl rfl ?_) | (with_reducible refine wpList_stopLoad (ty := 83) rfl ?_; unfold Stop; refine wpList_loadPart row83 (opts_len r.lkd.all) (HT2.out) r.lkd.part rfl rfl rfl ?_) | (go_at_call 52; refine (HC.out _).mono ?_; rintro e w4 ⟨rfl, hb4⟩; have HG4 := Lib.hid (show Gr _ w4 from hb4); have HT4 := Lib.hid (HT2.out.grow hb4); have t4 := HT4.out.cell r.q0; have tl4 := HT4.out.lt; clear hb4))
  have HBL := Lib.hid (show Below w.heap.size w w4 from (bgr ((Below.refl _ _).alloc (by first | (simp; done) | (simp; omega) | omega) _) (by first | (simp; done) | (simp; omega) | omega) (Gr.tr (Gr.tr HG1.out HG2.out) HG4.out)))
  clear r0 r1 r2 r3 r4 rl HT2 HLK t0 tl HC
  go_loopw [2, 3, 29] (fun p q t wr => ∃ i : Nat, i ≤ r.L.length ∧ t = .int .i64 i ∧ p = .int .i64 (fstMin r.lkd.lvs (al + 1) i).1 ∧ q = .int .i64 (fstMin r.lkd.lvs (al + 1) i).2 ∧ Hid (Box wr w1.heap.size r.lkd.cs 85) ∧ Hid (Below w.heap.size w wr)) (fun _ _ t _ => (20 - intOf t).toNat)
  case atStart => exact ⟨0, Nat.zero_le _, rfl, rfl, by simp [fstMin], HT4, HBL⟩
  case round =>
    clear HBL HT4 t4 tl4
    obtain ⟨i, hi, rfl, rfl, rfl, HX, HBL⟩ := hrel
    by_cases hlt : i < r.L.length
    · have HQ := Lib.hid (fun W => HA.out i W hlt)
      have hll := HLS.out i
      have HFS := Lib.hid (fstMin_succ r.lkd.lvs (al + 1) i)
      have HFB := fstMin_le r.lkd.lvs (al + 1) 25937424602 (by omega) (fun j => by have := HLS.out j; omega) i
      generalize fstMin r.lkd.lvs (al + 1) i = s at *
      generalize hl : r.lkd.lvs i = l at *
      have hil : (i : Int) < r.L.length := by omega
      cases hc : decide (l < s.2) with
      | true =>
        have hc2 : l < s.2 := by simpa using hc
        go_wp2_with (first | (with_reducible refine wpList_stopLoad (ty := 85) rfl ?_; unfold Stop; refine wpList_loadBox row85 (r.lkd.cs_len) (HX.out) rfl rfl rfl ?_) | (go_at_call 73; refine (HQ.out _).mono ?_; rintro e w5 ⟨rfl, hb5⟩; have HG5 := Lib.hid (show Gr _ w5 from hb5); clear hb5))
        exact ⟨⟨i + 1, by omega, by go_num, by rw [HFS.out, if_pos hc2], by rw [HFS.out, if_pos hc2], Lib.hid (HX.out.grow HG5.out), Lib.hid (bgr HBL.out HBL.out.size HG5.out)⟩, by simp [intOf]; omega⟩
      | false =>
        have hc2 : ¬ l < s.2 := by simpa using hc
        go_wp2_with (first | (with_reducible refine wpList_stopLoad (ty := 85) rfl ?_; unfold Stop; refine wpList_loadBox row85 (r.lkd.cs_len) (HX.out) rfl rfl rfl ?_) | (go_at_call 73; refine (HQ.out _).mono ?_; rintro e w5 ⟨rfl, hb5⟩; have HG5 := Lib.hid (show Gr _ w5 from hb5); clear hb5))
        exact ⟨⟨i + 1, by omega, by go_num, by rw [HFS.out, if_neg hc2], by rw [HFS.out, if_neg hc2], Lib.hid (HX.out.grow HG5.out), Lib.hid (bgr HBL.out HBL.out.size HG5.out)⟩, by simp [intOf]; omega⟩
    · have hin : i = r.L.length := by omega
      subst hin
      go_wp2_with fail
      exact bodyPost_ret (v := .tuple #[.int .i64 (fstMin r.lkd.lvs (al + 1) r.L.length).1, .int .i64 (fstMin r.lkd.lvs (al + 1) r.L.length).2, .int .i64 0]) (by simp [results, Try.f32, go_sem]) rfl ⟨rfl, HBL.out⟩
/-- What Ask tells. -/
def Rr.ask (r : Rr) : Nat × Nat × Int := if r.ok then (if r.lkd.all0 = 0 then (0, 0, 4) else if r.lkd.all0 = 1 then (0, 0, 4) else ((fstMin r.lkd.lvs (r.lkd.all0 + 1) r.L.length).1, (fstMin r.lkd.lvs (r.lkd.all0 + 1) r.L.length).2, 0)) else (0, 0, 1)
theorem Ask_any (r : Rr) (w : World) (hl : MksAt r.L r.lp w) (hr : MksAt r.R r.rp w) :
    Calls Try.prog 32 #[r.val] w fun e w' => e = .returned (.tuple #[.int .i64 r.ask.1, .int .i64 r.ask.2.1, .int .i64 r.ask.2.2]) ∧ Below w.heap.size w w' := by
  unfold Rr.ask
  cases h : r.ok with
  | false => exact ask_no r w hl hr h
  | true =>
    by_cases hz : r.lkd.all0 = 0
    · simp only [if_pos hz, if_true]
      exact ask_zero r w hl hr h hz
    · by_cases h1 : r.lkd.all0 = 1
      · simp only [if_neg hz, if_pos h1, if_true]
        exact ask_one r w hl hr h hz (by simpa using h1)
      · simp only [if_neg hz, if_neg h1, if_true]
        exact ask_yes r w hl hr h hz (by simpa using h1)

end Go.Proofs.Ytjlaoiimbhlafaa
end
section
namespace Go.Proofs.Ytjlaoiimbhlafaa
open Go.RowKit Go.Shelf

open MW
attribute [local go_sem] Oper.semAt_some run_store_func
def Rr.hdL (r : Rr) : Nat := gat (fun i => decide (0 < r.lkd.spl i 10)) r.L.length
def Rr.hdR (r : Rr) : Nat := gat (fun c => decide (0 < r.lkd.wy (woM r.lkd.all c) 0 0 r.lkd.h)) r.R.length
set_option maxRecDepth 100000 in
set_option maxHeartbeats 2000000 in
theorem hides_no (r : Rr) (w : World) (hl : MksAt r.L r.lp w) (hr : MksAt r.R r.rp w) (hok : r.ok = false) :
    Calls Try.prog 27 #[r.val] w fun e w' => e = .returned (.tuple #[.int .i64 0, .int .i64 0, .int .i64 1]) ∧ Below w.heap.size w w' := by
  have hzl := Lk.zero.cs_len
  have HR0 := Lib.hid (Box.fresh w r.cs 26)
  have HLK := Lib.hid (fun W (hg : Gr w W) => asks_any r W (hl.grow hg) (hr.grow hg))
  unfold Rr.cs at HR0
  unfold Rr.val at *
  have e0 : r.asked true = (Lk.zero, 1) := by unfold Rr.asked; rw [hok]; rfl
  rw [e0] at HLK
  clear hl hr e0
  dsimp only at HLK
  go_enter Try.func27, Try.ntmps27
  go_wp2_with (first | (with_reducible refine wpList_stopAlloc (ty := 85) rfl ?_; unfold Stop; refine wpList_alloc85 rfl rfl ?_) | (go_at_call 54; refine (HLK.out _ (Gr.alloc _ _)).mono ?_; rintro e w1 ⟨rfl, hb1⟩; have HG1 := Lib.hid (show Gr _ w1 from hb1); have HR1 := Lib.hid (HR0.out.grow hb1); have HT := Lib.hid (Box.fresh w1 Lk.zero.cs 85); clear hb1 HR0) | (with_reducible refine wpList_stopStore (ty := 85) rfl ?_; unfold Stop; refine wpList_storeBox row85 hzl hzl (lk_one _) HT.out rfl rfl rfl rfl ?_; have HT2 := Lib.hid (show Box ((w1.alloc (Obj.cells Lk.zero.cs.toArray 85)).setRow w1.heap.size Lk.zero.cs.toArray) w1.heap.size Lk.zero.cs 85 from HT.out.row (vs := Lk.zero.cs)); have HG2 := Lib.hid (show Gr w1 ((w1.alloc (Obj.cells Lk.zero.cs.toArray 85)).setRow w1.heap.size Lk.zero.cs.toArray) from Gr.row_new w1 _ _ _); generalize (w1.alloc (Obj.cells Lk.zero.cs.toArray 85)).setRow w1.heap.size Lk.zero.cs.toArray = w2 at *; have HR2 := Lib.hid (HR1.out.grow HG2.out); obtain ⟨r0, r1, r2, r3, r4⟩ := cells5 HR2.out; have rl := HR2.out.lt; clear HR1 HT))
  exact bodyPost_ret (v := .tuple #[.int .i64 0, .int .i64 0, .int .i64 1]) (by simp [results, Try.f27, go_sem]) rfl ⟨rfl, (bgr ((Below.refl _ _).alloc (by first | (simp; done) | (simp; omega) | omega) _) (by first | (simp; done) | (simp; omega) | omega) (Gr.tr HG1.out HG2.out))⟩
set_option maxRecDepth 100000 in
set_option maxHeartbeats 2000000 in
theorem hides_zero (r : Rr) (w : World) (hl : MksAt r.L r.lp w) (hr : MksAt r.R r.rp w) (hok : r.ok = true) (hz : r.lkd.all0 = 0) :
    Calls Try.prog 27 #[r.val] w fun e w' => e = .returned (.tuple #[.int .i64 0, .int .i64 0, .int .i64 4]) ∧ Below w.heap.size w w' := by
  have hzl := Lk.zero.cs_len
  have HR0 := Lib.hid (Box.fresh w r.cs 26)
  have HLK := Lib.hid (fun W (hg : Gr w W) => asks_any r W (hl.grow hg) (hr.grow hg))
  unfold Rr.cs at HR0
  unfold Rr.val at *
  have e0 : r.asked true = (Lk.zero, 4) := by unfold Rr.asked; rw [hok]; simp [hz]
  rw [e0] at HLK
  clear hl hr e0
  dsimp only at HLK
  go_enter Try.func27, Try.ntmps27
  go_wp2_with (first | (with_reducible refine wpList_stopAlloc (ty := 85) rfl ?_; unfold Stop; refine wpList_alloc85 rfl rfl ?_) | (go_at_call 54; refine (HLK.out _ (Gr.alloc _ _)).mono ?_; rintro e w1 ⟨rfl, hb1⟩; have HG1 := Lib.hid (show Gr _ w1 from hb1); have HR1 := Lib.hid (HR0.out.grow hb1); have HT := Lib.hid (Box.fresh w1 Lk.zero.cs 85); clear hb1 HR0) | (with_reducible refine wpList_stopStore (ty := 85) rfl ?_; unfold Stop; refine wpList_storeBox row85 hzl hzl (lk_one _) HT.out rfl rfl rfl rfl ?_; have HT2 := Lib.hid (show Box ((w1.alloc (Obj.cells Lk.zero.cs.toArray 85)).setRow w1.heap.size Lk.zero.cs.toArray) w1.heap.size Lk.zero.cs 85 from HT.out.row (vs := Lk.zero.cs)); have HG2 := Lib.hid (show Gr w1 ((w1.alloc (Obj.cells Lk.zero.cs.toArray 85)).setRow w1.heap.size Lk.zero.cs.toArray) from Gr.row_new w1 _ _ _); generalize (w1.alloc (Obj.cells Lk.zero.cs.toArray 85)).setRow w1.heap.size Lk.zero.cs.toArray = w2 at *; have HR2 := Lib.hid (HR1.out.grow HG2.out); obtain ⟨r0, r1, r2, r3, r4⟩ := cells5 HR2.out; have rl := HR2.out.lt; clear HR1 HT))
  exact bodyPost_ret (v := .tuple #[.int .i64 0, .int .i64 0, .int .i64 4]) (by simp [results, Try.f27, go_sem]) rfl ⟨rfl, (bgr ((Below.refl _ _).alloc (by first | (simp; done) | (simp; omega) | omega) _) (by first | (simp; done) | (simp; omega) | omega) (Gr.tr HG1.out HG2.out))⟩
set_option maxRecDepth 100000 in
set_option maxHeartbeats 2000000 in
theorem hides_yes (r : Rr) (w : World) (hl : MksAt r.L r.lp w) (hr : MksAt r.R r.rp w) (hok : r.ok = true) (hz : r.lkd.all0 ≠ 0) :
    Calls Try.prog 27 #[r.val] w fun e w' => e = .returned (.tuple #[.int .i64 (r.hdL : Nat), .int .i64 (r.hdR : Nat), .int .i64 0]) ∧ Below w.heap.size w w' := by
  have hzl := Lk.zero.cs_len
  have HR0 := Lib.hid (Box.fresh w r.cs 26)
  have HLK := Lib.hid (fun W (hg : Gr w W) => asks_any r W (hl.grow hg) (hr.grow hg))
  unfold Rr.cs at HR0
  unfold Rr.val at *
  have e0 : r.asked true = (r.lkd, 0) := by unfold Rr.asked; rw [hok]; simp [hz]
  rw [e0] at HLK
  clear hl hr e0
  dsimp only at HLK
  have hkl := r.lkd.cs_len
  have HOK := Lib.hid (Rr.lkd_ok hok)
  have hL10 : r.L.length ≤ 10 := HOK.out.nL
  have hR10 : r.R.length ≤ 10 := HOK.out.nR
  have HLA := Lib.hid (fun W => gatherL_any r.lkd r.L.length (fun i => decide (0 < r.lkd.spl i 10)) [] W (by omega) (fun k hk => by cases hk) (fun W' _ k hk => hidesLeft_any r.lkd k W' HOK.out hk))
  have HRA := Lib.hid (fun W => gatherR_any r.lkd r.R.length (fun c => decide (0 < r.lkd.wy (woM r.lkd.all c) 0 0 r.lkd.h)) [] W (by omega) (fun k hk => by cases hk) (fun W' _ k hk => hidesRight_any r.lkd k W' HOK.out (by omega)))
  unfold Rr.hdL Rr.hdR
  generalize gat (fun i => decide (0 < r.lkd.spl i 10)) r.L.length = ga at *
  generalize gat (fun c => decide (0 < r.lkd.wy (woM r.lkd.all c) 0 0 r.lkd.h)) r.R.length = gb at *
  clear hz
  go_enter Try.func27, Try.ntmps27
  go_wp2_with (first | (with_reducible refine wpList_stopAlloc (ty := 85) rfl ?_; unfold Stop; refine wpList_alloc85 rfl rfl ?_) | (go_at_call 54; refine (HLK.out _ (Gr.alloc _ _)).mono ?_; rintro e w1 ⟨rfl, hb1⟩; have HG1 := Lib.hid (show Gr _ w1 from hb1); have HR1 := Lib.hid (HR0.out.grow hb1); have HT := Lib.hid (Box.fresh w1 Lk.zero.cs 85); clear hb1 HR0) | (with_reducible refine wpList_stopStore (ty := 85) rfl ?_; unfold Stop; refine wpList_storeBox row85 hkl hzl (lk_one _) HT.out rfl rfl rfl rfl ?_; have HT2 := Lib.hid (show Box ((w1.alloc (Obj.cells Lk.zero.cs.toArray 85)).setRow w1.heap.size r.lkd.cs.toArray) w1.heap.size r.lkd.cs 85 from HT.out.row (vs := r.lkd.cs)); have HG2 := Lib.hid (show Gr w1 ((w1.alloc (Obj.cells Lk.zero.cs.toArray 85)).setRow w1.heap.size r.lkd.cs.toArray) from Gr.row_new w1 _ _ _); generalize (w1.alloc (Obj.cells Lk.zero.cs.toArray 85)).setRow w1.heap.size r.lkd.cs.toArray = w2 at *; have HR2 := Lib.hid (HR1.out.grow HG2.out); obtain ⟨r0, r1, r2, r3, r4⟩ := cells5 HR2.out; have rl := HR2.out.lt; clear HR1 HT))
  clear r0 r1 r2 r3 r4 rl HLK
  have HB2 := Lib.hid (show Below w.heap.size w w2 from (bgr ((Below.refl _ _).alloc (by first | (simp; done) | (simp; omega) | omega) _) (by first | (simp; done) | (simp; omega) | omega) (Gr.tr HG1.out HG2.out)))
  refine region2 17 ?_ ?_ ?_
  · kernel_rfl
  · kernel_rfl
  simp only [List.take_succ_cons, List.take_zero, List.drop_succ_cons, List.drop_zero]
  apply chain_eq (D := [(5, none)]) rfl (by kernel_rfl)
  · intro ρ W4 ⟨p1, p2, p3⟩ hG hF K hK; (try simp [FactsD] at hF); have hD := Gr.tr (Gr.drew _) hG; go_simp; exact hK _ (gives_val)
  apply chain_eq (D := [(14, some 0)]) rfl (by kernel_rfl)
  · intro ρ W4 ⟨p1, p2, p3⟩ hG hF K hK; (try simp [FactsD] at hF); have hD := Gr.tr (Gr.drew _) hG; go_simp; exact hK _ (gives_val)
  apply chain_eq (D := [(15, some 0)]) rfl (by kernel_rfl)
  · intro ρ W4 ⟨p1, p2, p3⟩ hG hF K hK; (try simp [FactsD] at hF); have hD := Gr.tr (Gr.drew _) hG; have q0 := (HT2.out.grow hD).cell r.q0; go_simp; exact hK _ (gives_val)
  apply chain_eq (D := [(16, some 0)]) rfl (by kernel_rfl)
  · intro ρ W4 ⟨p1, p2, p3⟩ hG hF K hK; (try simp [FactsD] at hF); have hD := Gr.tr (Gr.drew _) hG; go_simp; exact hK _ (gives_val)
  apply chain_eq (D := [(5, none)]) rfl (by kernel_rfl)
  · intro ρ W4 ⟨p1, p2, p3⟩ hG hF K hK; (try simp [FactsD] at hF); have hD := Gr.tr (Gr.drew _) hG; rw [exec_loadBox row85 hkl (HT2.out.grow hD) rfl hF]; exact hK _ gives_val
  apply chain_eq (D := [(18, some 0)]) rfl (by kernel_rfl)
  · intro ρ W4 ⟨p1, p2, p3⟩ hG hF K hK; (try simp [FactsD] at hF); have hD := Gr.tr (Gr.drew _) hG; go_simp; exact hK _ (gives_val)
  apply chain_eq (D := [(17, some 2), (19, some 0)]) rfl (by kernel_rfl)
  · intro ρ W4 ⟨p1, p2, p3⟩ hG hF K hK; (try simp [FactsD] at hF); have hD := Gr.tr (Gr.drew _) hG; go_simp; exact hK _ (gives_call (HLA.out _))
  apply chain_eq (D := [(5, none)]) rfl (by kernel_rfl)
  · intro ρ W4 ⟨p1, p2, p3⟩ hG hF K hK; (try simp [FactsD] at hF); have hD := Gr.tr (Gr.drew _) hG; go_simp; exact hK _ (gives_val)
  apply chain_eq (D := [(21, some 0)]) rfl (by kernel_rfl)
  · intro ρ W4 ⟨p1, p2, p3⟩ hG hF K hK; (try simp [FactsD] at hF); have hD := Gr.tr (Gr.drew _) hG; go_simp; exact hK _ (gives_val)
  apply chain_eq (D := [(22, some 0)]) rfl (by kernel_rfl)
  · intro ρ W4 ⟨p1, p2, p3⟩ hG hF K hK; (try simp [FactsD] at hF); have hD := Gr.tr (Gr.drew _) hG; have q0 := (HT2.out.grow hD).cell r.q1; go_simp; exact hK _ (gives_val)
  apply chain_eq (D := [(23, some 0)]) rfl (by kernel_rfl)
  · intro ρ W4 ⟨p1, p2, p3⟩ hG hF K hK; (try simp [FactsD] at hF); have hD := Gr.tr (Gr.drew _) hG; go_simp; exact hK _ (gives_val)
  apply chain_eq (D := [(5, none)]) rfl (by kernel_rfl)
  · intro ρ W4 ⟨p1, p2, p3⟩ hG hF K hK; (try simp [FactsD] at hF); have hD := Gr.tr (Gr.drew _) hG; rw [exec_loadBox row85 hkl (HT2.out.grow hD) rfl hF]; exact hK _ gives_val
  apply chain_eq (D := [(25, some 0)]) rfl (by kernel_rfl)
  · intro ρ W4 ⟨p1, p2, p3⟩ hG hF K hK; (try simp [FactsD] at hF); have hD := Gr.tr (Gr.drew _) hG; go_simp; exact hK _ (gives_val)
  apply chain_eq (D := [(24, some 2), (26, some 0)]) rfl (by kernel_rfl)
  · intro ρ W4 ⟨p1, p2, p3⟩ hG hF K hK; (try simp [FactsD] at hF); have hD := Gr.tr (Gr.drew _) hG; go_simp; exact hK _ (gives_call (HRA.out _))
  apply chain_eq (D := [(20, some 7)]) rfl (by kernel_rfl)
  · intro ρ W4 ⟨p1, p2, p3⟩ hG hF K hK; (try simp [FactsD] at hF); have hD := Gr.tr (Gr.drew _) hG; go_simp; exact hK _ (gives_val)
  apply chain_eq (D := [(27, some 1)]) rfl (by kernel_rfl)
  · intro ρ W4 ⟨p1, p2, p3⟩ hG hF K hK; (try simp [FactsD] at hF); have hD := Gr.tr (Gr.drew _) hG; go_simp; exact hK _ (gives_val)
  apply chain_eq (D := []) rfl (by kernel_rfl)
  · intro ρ W4 ⟨p1, p2, p3⟩ hG hF K hK; (try simp [FactsD] at hF); have hD := Gr.tr (Gr.drew _) hG; go_simp; exact hK _ (gives_val)
  refine chain_done ?_
  intro vs W4 hG hV
  obtain ⟨e16, e15, e14, -⟩ := hV
  simp only [Nat.reduceSub] at e14 e15 e16
  simp only [lay, Act.put, List.getElem?_toArray, List.getElem?_cons_succ, List.getElem?_cons_zero, Option.bind_some, List.setIfInBounds_toArray, List.set_cons_succ, List.set_cons_zero]
  generalize vs 0 = v0
  generalize vs 1 = v1
  generalize vs 2 = v2
  generalize vs 3 = v3
  generalize vs 4 = v4
  generalize vs 5 = v5
  generalize vs 6 = v6
  generalize vs 7 = v7
  generalize vs 8 = v8
  generalize vs 9 = v9
  generalize vs 10 = v10
  generalize vs 11 = v11
  generalize vs 12 = v12
  generalize vs 13 = v13
  generalize vs 14 = v14 at *
  generalize vs 15 = v15 at *
  generalize vs 16 = v16 at *
  subst e14
  subst e15
  subst e16
  go_wp2_with fail
  exact bodyPost_ret (v := .tuple #[.int .i64 ga, .int .i64 gb, .int .i64 0]) (by simp [results, Try.f27, go_sem]) rfl ⟨rfl, bgr HB2.out HB2.out.size hG⟩
/-- What Hides tells. -/
def Rr.hides (r : Rr) : Nat × Nat × Int := if r.ok then (if r.lkd.all0 = 0 then (0, 0, 4) else (r.hdL, r.hdR, 0)) else (0, 0, 1)
theorem Hides_any (r : Rr) (w : World) (hl : MksAt r.L r.lp w) (hr : MksAt r.R r.rp w) :
    Calls Try.prog 27 #[r.val] w fun e w' => e = .returned (.tuple #[.int .i64 r.hides.1, .int .i64 r.hides.2.1, .int .i64 r.hides.2.2]) ∧ Below w.heap.size w w' := by
  unfold Rr.hides
  cases h : r.ok with
  | false => exact hides_no r w hl hr h
  | true =>
    by_cases hz : r.lkd.all0 = 0
    · simp only [if_pos hz, if_true]
      exact hides_zero r w hl hr h hz
    · simp only [if_neg hz, if_true]
      exact hides_yes r w hl hr h hz

end Go.Proofs.Ytjlaoiimbhlafaa
end
