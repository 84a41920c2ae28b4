import Derived.Test.YtjlaoiimbhlafaaC27
set_option linter.unusedVariables false
set_option linter.unusedSimpArgs false
namespace Go.Proofs.Ytjlaoiimbhlafaa
open Go.RowKit Go.Shelf

open MW
attribute [local go_sem] Oper.semAt_some run_store_func
/-- Valid rows that are looked at. -/
def Rr.lkd (r : Rr) : Lk := r.lk r.fitm (allM r.fitm r.L.length r.R.length)
theorem Rr.ok_parts {r : Rr} (h : r.ok = true) : r.L.length ≤ 10 ∧ r.R.length ≤ 10 ∧ (∀ m ∈ r.L, m.ok = true) ∧ (∀ m ∈ r.R, m.ok = true) ∧ (r.s ≤ r.t ∧ -65536 ≤ r.s ∧ r.t ≤ 65536) ∧ 0 ≤ r.h ∧ r.h ≤ 20 := by
  unfold Rr.ok okRow okS at h
  simp only [Bool.and_eq_true, decide_eq_true_eq, List.all_eq_true] at h
  obtain ⟨⟨⟨⟨⟨h1, h2⟩, h3, h4⟩, h5, h6, h7⟩, h8⟩, h9⟩ := h
  exact ⟨h1, h3, h2, h4, ⟨h5, h6, h7⟩, h8, h9⟩
theorem allM_lt (f : Nat → Nat → Bool) {nL nR : Nat} (hR : nR ≤ 10) (i : Nat) : allM f nL nR i < 2048 := by
  unfold allM
  split
  · refine Nat.or_lt_two_pow (n := 11) (by decide) (Nat.lt_of_lt_of_le (gat_lt _ _) (Nat.pow_le_pow_right (by omega) (by omega)))
  · omega
theorem allM_bit (f : Nat → Nat → Bool) {nL nR i : Nat} (hi : i < nL) (j : Nat) : (allM f nL nR i).testBit j = (decide (j = 10) || (decide (j < nR) && f i j)) := by
  unfold allM
  rw [if_pos hi, Nat.testBit_or, Nat.testBit_two_pow, gat_bit]
  congr 1
  rw [decide_eq_decide]
  exact ⟨fun e => e.symm, fun e => e.symm⟩
theorem Rr.lkd_ok {r : Rr} (h : r.ok = true) : r.lkd.Ok := by
  obtain ⟨h1, h2, -, -, -, h3, h4⟩ := Rr.ok_parts h
  refine ⟨h1, h2, ⟨h3, h4⟩, fun i => allM_lt _ h2 i, fun i hi j hj hj' => ?_⟩
  show (allM r.fitm r.L.length r.R.length i).testBit j = false
  rw [allM_bit (nL := r.L.length) (nR := r.R.length) r.fitm (show i < r.L.length from hi)]
  have hj2 : r.R.length ≤ j := hj
  have e1 : decide (j = 10) = false := by simp; omega
  have e2 : decide (j < r.R.length) = false := by simp; omega
  rw [e1, e2]
  rfl
/-- What is told of rows that are looked at. -/
def Rr.looked (r : Rr) : Lk × Int := if r.ok then (r.lkd, 0) else (Lk.zero, 1)
theorem look_any (r : Rr) (w : World) (hl : MksAt r.L r.lp w) (hr : MksAt r.R r.rp w) :
    Calls Try.prog 48 #[r.val] w fun e w' => e = .returned (.tuple #[.agg r.looked.1.cs.toArray, .int .i64 r.looked.2]) ∧ Below w.heap.size w w' := by
  unfold Rr.looked
  cases h : r.ok with
  | true =>
    obtain ⟨h1, h2, h3, h4, -⟩ := Rr.ok_parts h
    exact look_ok r w hl hr h h1 h2 (fun m hm => Mrk.in_of_ok (h3 m hm)) (fun m hm => Mrk.in_of_ok (h4 m hm))
  | false => exact look_no r w hl hr h
/-- What is told of rows whose ways are asked about, and some left mark. -/
def Rr.asked (r : Rr) (marks : Bool) : Lk × Int := if r.ok then (if marks then (if r.lkd.all0 = 0 then (Lk.zero, 4) else (r.lkd, 0)) else (Lk.zero, 2)) else (Lk.zero, 1)
set_option maxRecDepth 100000 in
set_option maxHeartbeats 1000000 in
theorem asks_no (r : Rr) (w : World) (hl : MksAt r.L r.lp w) (hr : MksAt r.R r.rp w) (hok : r.ok = false) :
    Calls Try.prog 54 #[r.val, .slice none 0 0] w fun e w' => e = .returned (.tuple #[.agg Lk.zero.cs.toArray, .int .i64 1]) ∧ Below w.heap.size w w' := by
  have hzl := Lk.zero.cs_len
  have HBZ := Lib.hid built85z
  have HR0 := Lib.hid ((Box.fresh w r.cs 26).grow (Gr.alloc _ (Obj.cells Lk.zero.cs.toArray 85)))
  have HZ0 := Lib.hid (show Box ((w.alloc (Obj.cells r.cs.toArray 26)).alloc (Obj.cells Lk.zero.cs.toArray 85)) (w.heap.size + 1) Lk.zero.cs 85 by
    have := Box.fresh (w.alloc (Obj.cells r.cs.toArray 26)) Lk.zero.cs 85
    simpa using this)
  have HLK := Lib.hid (fun W (hg : Gr w W) => look_any r W (hl.grow hg) (hr.grow hg))
  unfold Rr.cs at HR0 HZ0
  unfold Rr.val at *
  have e0 : r.looked = (Lk.zero, 1) := by unfold Rr.looked; rw [hok]; rfl
  rw [e0] at HLK
  clear hl hr e0
  dsimp only at HLK
  go_enter Try.func54, Try.ntmps54
  go_wp2_with (first | (with_reducible refine wpList_stopAlloc (ty := 85) rfl ?_; unfold Stop; refine wpList_alloc85 rfl rfl ?_) | (go_at_call 48; refine (HLK.out _ ((Gr.alloc _ _).tr (Gr.alloc _ _))).mono ?_; rintro e w1 ⟨rfl, hb1⟩; have HG1 := Lib.hid (show Gr _ w1 from hb1); have HR1 := Lib.hid (HR0.out.grow hb1); have HZ1 := Lib.hid (HZ0.out.grow hb1); have HT := Lib.hid (Box.fresh w1 Lk.zero.cs 85); have zl1 := HZ1.out.lt; clear hb1 HR0 HZ0) | (with_reducible refine wpList_stopStore (ty := 85) rfl ?_; unfold Stop; refine wpList_storeBox row85 hzl hzl (lk_one _) HT.out rfl rfl rfl rfl ?_; have HT2 := Lib.hid (show Box ((w1.alloc (Obj.cells Lk.zero.cs.toArray 85)).setRow w1.heap.size Lk.zero.cs.toArray) w1.heap.size Lk.zero.cs 85 from HT.out.row (vs := Lk.zero.cs)); have HG2 := Lib.hid (show Gr w1 ((w1.alloc (Obj.cells Lk.zero.cs.toArray 85)).setRow w1.heap.size Lk.zero.cs.toArray) from Gr.row_new w1 _ _ _); generalize (w1.alloc (Obj.cells Lk.zero.cs.toArray 85)).setRow w1.heap.size Lk.zero.cs.toArray = w2 at *; have HR2 := Lib.hid (HR1.out.grow HG2.out); have HZ2 := Lib.hid (HZ1.out.grow HG2.out); obtain ⟨r0, r1, r2, r3, r4⟩ := cells5 HR2.out; have rl := HR2.out.lt; clear HR1 HZ1 HT) | (with_reducible refine wpList_stopBuild (ty := 85) rfl ?_; unfold Stop; refine wpList_buildRow HBZ.out rfl rfl (by simp [Act.eval]) ?_) | (with_reducible refine wpList_stopStore (ty := 85) rfl ?_; unfold Stop; refine wpList_storeBox row85 hzl hzl (lk_one _) HZ2.out rfl rfl rfl rfl ?_))
  exact bodyPost_ret (v := .tuple #[.agg Lk.zero.cs.toArray, .int .i64 1]) (results_pair85 (HZ2.out.row (vs := Lk.zero.cs)) rfl rfl hzl rfl) rfl ⟨rfl, below_setRow (bgr (bgr (((Below.refl _ _).alloc (by first | (simp; done) | (simp; omega) | omega) _).alloc (by first | (simp; done) | (simp; omega) | omega) _) (by first | (simp; done) | (simp; omega) | omega) HG1.out) (by first | (simp; done) | (simp; omega) | omega) HG2.out) (by first | (simp; done) | (simp; omega) | omega) _⟩
set_option maxRecDepth 100000 in
set_option maxHeartbeats 1000000 in
theorem asks_noL (r : Rr) (bs : Nat) (w : World) (hl : MksAt r.L r.lp w) (hr : MksAt r.R r.rp w) (hok : r.ok = false) :
    Calls Try.prog 54 #[r.val, .slice (some ⟨bs, 0, none⟩) 1 1] w fun e w' => e = .returned (.tuple #[.agg Lk.zero.cs.toArray, .int .i64 1]) ∧ Below w.heap.size w w' := by
  have hzl := Lk.zero.cs_len
  have HBZ := Lib.hid built85z
  have HR0 := Lib.hid ((Box.fresh w r.cs 26).grow (Gr.alloc _ (Obj.cells Lk.zero.cs.toArray 85)))
  have HZ0 := Lib.hid (show Box ((w.alloc (Obj.cells r.cs.toArray 26)).alloc (Obj.cells Lk.zero.cs.toArray 85)) (w.heap.size + 1) Lk.zero.cs 85 by
    have := Box.fresh (w.alloc (Obj.cells r.cs.toArray 26)) Lk.zero.cs 85
    simpa using this)
  have HLK := Lib.hid (fun W (hg : Gr w W) => look_any r W (hl.grow hg) (hr.grow hg))
  unfold Rr.cs at HR0 HZ0
  unfold Rr.val at *
  have e0 : r.looked = (Lk.zero, 1) := by unfold Rr.looked; rw [hok]; rfl
  rw [e0] at HLK
  clear hl hr e0
  dsimp only at HLK
  go_enter Try.func54, Try.ntmps54
  go_wp2_with (first | (with_reducible refine wpList_stopAlloc (ty := 85) rfl ?_; unfold Stop; refine wpList_alloc85 rfl rfl ?_) | (go_at_call 48; refine (HLK.out _ ((Gr.alloc _ _).tr (Gr.alloc _ _))).mono ?_; rintro e w1 ⟨rfl, hb1⟩; have HG1 := Lib.hid (show Gr _ w1 from hb1); have HR1 := Lib.hid (HR0.out.grow hb1); have HZ1 := Lib.hid (HZ0.out.grow hb1); have HT := Lib.hid (Box.fresh w1 Lk.zero.cs 85); have zl1 := HZ1.out.lt; clear hb1 HR0 HZ0) | (with_reducible refine wpList_stopStore (ty := 85) rfl ?_; unfold Stop; refine wpList_storeBox row85 hzl hzl (lk_one _) HT.out rfl rfl rfl rfl ?_; have HT2 := Lib.hid (show Box ((w1.alloc (Obj.cells Lk.zero.cs.toArray 85)).setRow w1.heap.size Lk.zero.cs.toArray) w1.heap.size Lk.zero.cs 85 from HT.out.row (vs := Lk.zero.cs)); have HG2 := Lib.hid (show Gr w1 ((w1.alloc (Obj.cells Lk.zero.cs.toArray 85)).setRow w1.heap.size Lk.zero.cs.toArray) from Gr.row_new w1 _ _ _); generalize (w1.alloc (Obj.cells Lk.zero.cs.toArray 85)).setRow w1.heap.size Lk.zero.cs.toArray = w2 at *; have HR2 := Lib.hid (HR1.out.grow HG2.out); have HZ2 := Lib.hid (HZ1.out.grow HG2.out); obtain ⟨r0, r1, r2, r3, r4⟩ := cells5 HR2.out; have rl := HR2.out.lt; clear HR1 HZ1 HT) | (with_reducible refine wpList_stopBuild (ty := 85) rfl ?_; unfold Stop; refine wpList_buildRow HBZ.out rfl rfl (by simp [Act.eval]) ?_) | (with_reducible refine wpList_stopStore (ty := 85) rfl ?_; unfold Stop; refine wpList_storeBox row85 hzl hzl (lk_one _) HZ2.out rfl rfl rfl rfl ?_))
  exact bodyPost_ret (v := .tuple #[.agg Lk.zero.cs.toArray, .int .i64 1]) (results_pair85 (HZ2.out.row (vs := Lk.zero.cs)) rfl rfl hzl rfl) rfl ⟨rfl, below_setRow (bgr (bgr (((Below.refl _ _).alloc (by first | (simp; done) | (simp; omega) | omega) _).alloc (by first | (simp; done) | (simp; omega) | omega) _) (by first | (simp; done) | (simp; omega) | omega) HG1.out) (by first | (simp; done) | (simp; omega) | omega) HG2.out) (by first | (simp; done) | (simp; omega) | omega) _⟩
set_option maxRecDepth 100000 in
set_option maxHeartbeats 1000000 in
theorem asks_rangeL (r : Rr) (bs : Nat) (i : Int) (T0 : TypeId) (w : World) (hl : MksAt r.L r.lp w) (hr : MksAt r.R r.rp w) (hok : r.ok = true) (hbs : Box w bs [.int .i64 i] T0) (hm : (decide (0 ≤ i) && decide (i < r.L.length)) = false) :
    Calls Try.prog 54 #[r.val, .slice (some ⟨bs, 0, none⟩) 1 1] w fun e w' => e = .returned (.tuple #[.agg Lk.zero.cs.toArray, .int .i64 2]) ∧ Below w.heap.size w w' := by
  have hzl := Lk.zero.cs_len
  have HBZ := Lib.hid built85z
  have HR0 := Lib.hid ((Box.fresh w r.cs 26).grow (Gr.alloc _ (Obj.cells Lk.zero.cs.toArray 85)))
  have HZ0 := Lib.hid (show Box ((w.alloc (Obj.cells r.cs.toArray 26)).alloc (Obj.cells Lk.zero.cs.toArray 85)) (w.heap.size + 1) Lk.zero.cs 85 by
    have := Box.fresh (w.alloc (Obj.cells r.cs.toArray 26)) Lk.zero.cs 85
    simpa using this)
  have HLK := Lib.hid (fun W (hg : Gr w W) => look_any r W (hl.grow hg) (hr.grow hg))
  unfold Rr.cs at HR0 HZ0
  unfold Rr.val at *
  have e0 : r.looked = (r.lkd, 0) := by unfold Rr.looked; rw [hok]; rfl
  rw [e0] at HLK
  have HOK := Lib.hid (Rr.lkd_ok hok)
  have hkl := r.lkd.cs_len
  have HC := Lib.hid (fun W => count_any r.lkd r.lkd.all HOK.out.m HOK.out.r HOK.out.nL HOK.out.nR HOK.out.h W)
  have hc0 : r.lkd.wy r.lkd.all 0 0 r.lkd.h = r.lkd.all0 := rfl
  rw [hc0] at HC
  have HBS := Lib.hid hbs
  have HIM := Lib.hid (fun p c W => isMark_any i p r.L.length c W)
  rw [hm] at HIM
  clear hl hr e0 hc0 hbs
  dsimp only at HLK
  go_enter Try.func54, Try.ntmps54
  go_wp2_with (first | (with_reducible refine wpList_stopAlloc (ty := 85) rfl ?_; unfold Stop; refine wpList_alloc85 rfl rfl ?_) | (go_at_call 48; refine (HLK.out _ ((Gr.alloc _ _).tr (Gr.alloc _ _))).mono ?_; rintro e w1 ⟨rfl, hb1⟩; have HG1 := Lib.hid (show Gr _ w1 from hb1); have HR1 := Lib.hid (HR0.out.grow hb1); have HZ1 := Lib.hid (HZ0.out.grow hb1); have HT := Lib.hid (Box.fresh w1 Lk.zero.cs 85); have zl1 := HZ1.out.lt; clear hb1 HR0 HZ0) | (with_reducible refine wpList_stopStore (ty := 85) rfl ?_; unfold Stop; refine wpList_storeBox row85 hkl hzl (lk_one _) HT.out rfl rfl rfl rfl ?_; have HT2 := Lib.hid (show Box ((w1.alloc (Obj.cells Lk.zero.cs.toArray 85)).setRow w1.heap.size r.lkd.cs.toArray) w1.heap.size r.lkd.cs 85 from HT.out.row (vs := r.lkd.cs)); have HG2 := Lib.hid (show Gr w1 ((w1.alloc (Obj.cells Lk.zero.cs.toArray 85)).setRow w1.heap.size r.lkd.cs.toArray) from Gr.row_new w1 _ _ _); generalize (w1.alloc (Obj.cells Lk.zero.cs.toArray 85)).setRow w1.heap.size r.lkd.cs.toArray = w2 at *; have HR2 := Lib.hid (HR1.out.grow HG2.out); have HZ2 := Lib.hid (HZ1.out.grow HG2.out); obtain ⟨r0, r1, r2, r3, r4⟩ := cells5 HR2.out; have rl := HR2.out.lt; clear HR1 HZ1 HT; have bs0 := (HBS.out.grow ((Gr.alloc _ _).tr ((Gr.alloc _ _).tr (Gr.tr HG1.out HG2.out)))).cell (i := 0) rfl; have bsl := (HBS.out.grow ((Gr.alloc _ _).tr ((Gr.alloc _ _).tr (Gr.tr HG1.out HG2.out)))).lt) | (with_reducible refine wpList_stopBuild (ty := 85) rfl ?_; unfold Stop; refine wpList_buildRow HBZ.out rfl rfl (by simp [Act.eval]) ?_))
  go_loopw [21] (fun t wr => t = .int .i64 0 ∧ wr = w2) (fun t _ => 0)
  case atStart => exact ⟨rfl, rfl⟩
  case round =>
    obtain ⟨rfl, rfl⟩ := hrel
    go_wp2_with (first | (with_reducible refine wpList_stopAlloc (ty := 85) rfl ?_; unfold Stop; refine wpList_alloc85 rfl rfl ?_) | (go_at_call 48; refine (HLK.out _ ((Gr.alloc _ _).tr (Gr.alloc _ _))).mono ?_; rintro e w1 ⟨rfl, hb1⟩; have HG1 := Lib.hid (show Gr _ w1 from hb1); have HR1 := Lib.hid (HR0.out.grow hb1); have HZ1 := Lib.hid (HZ0.out.grow hb1); have HT := Lib.hid (Box.fresh w1 Lk.zero.cs 85); have zl1 := HZ1.out.lt; clear hb1 HR0 HZ0) | (with_reducible refine wpList_stopStore (ty := 85) rfl ?_; unfold Stop; refine wpList_storeBox row85 hkl hzl (lk_one _) HT.out rfl rfl rfl rfl ?_; have HT2 := Lib.hid (show Box ((w1.alloc (Obj.cells Lk.zero.cs.toArray 85)).setRow w1.heap.size r.lkd.cs.toArray) w1.heap.size r.lkd.cs 85 from HT.out.row (vs := r.lkd.cs)); have HG2 := Lib.hid (show Gr w1 ((w1.alloc (Obj.cells Lk.zero.cs.toArray 85)).setRow w1.heap.size r.lkd.cs.toArray) from Gr.row_new w1 _ _ _); generalize (w1.alloc (Obj.cells Lk.zero.cs.toArray 85)).setRow w1.heap.size r.lkd.cs.toArray = w2 at *; have HR2 := Lib.hid (HR1.out.grow HG2.out); have HZ2 := Lib.hid (HZ1.out.grow HG2.out); obtain ⟨r0, r1, r2, r3, r4⟩ := cells5 HR2.out; have rl := HR2.out.lt; clear HR1 HZ1 HT; have bs0 := (HBS.out.grow ((Gr.alloc _ _).tr ((Gr.alloc _ _).tr (Gr.tr HG1.out HG2.out)))).cell (i := 0) rfl; have bsl := (HBS.out.grow ((Gr.alloc _ _).tr ((Gr.alloc _ _).tr (Gr.tr HG1.out HG2.out)))).lt) | (with_reducible refine wpList_stopBuild (ty := 85) rfl ?_; unfold Stop; refine wpList_buildRow HBZ.out rfl rfl (by simp [Act.eval]) ?_) | (go_at_call 49; refine (HIM.out _ _ _).mono ?_; rintro e w3 ⟨rfl, hb3⟩; have HG3 := Lib.hid (show Gr _ w3 from hb3); have HT3 := Lib.hid (HT2.out.grow hb3); have HZ3 := Lib.hid (HZ2.out.grow hb3); clear hb3) | (with_reducible refine wpList_stopStore (ty := 85) rfl ?_; unfold Stop; refine wpList_storeBox row85 hzl hzl (lk_one _) HZ3.out rfl rfl rfl rfl ?_))
    exact bodyPost_ret (v := .tuple #[.agg Lk.zero.cs.toArray, .int .i64 2]) (results_pair85 (HZ3.out.row (vs := Lk.zero.cs)) rfl rfl hzl rfl) rfl ⟨rfl, below_setRow (bgr (((Below.refl _ _).alloc (by first | (simp; done) | (simp; omega) | omega) _).alloc (by first | (simp; done) | (simp; omega) | omega) _) (by first | (simp; done) | (simp; omega) | omega) (Gr.tr (Gr.tr HG1.out HG2.out) HG3.out)) (by first | (simp; done) | (simp; omega) | omega) _⟩
set_option maxRecDepth 100000 in
set_option maxHeartbeats 1000000 in
theorem asks_zero (r : Rr) (w : World) (hl : MksAt r.L r.lp w) (hr : MksAt r.R r.rp w) (hok : r.ok = true) (hz : (r.lkd.all0 == 0) = true) :
    Calls Try.prog 54 #[r.val, .slice none 0 0] w fun e w' => e = .returned (.tuple #[.agg Lk.zero.cs.toArray, .int .i64 4]) ∧ Below w.heap.size w w' := by
  have hzl := Lk.zero.cs_len
  have HBZ := Lib.hid built85z
  have HR0 := Lib.hid ((Box.fresh w r.cs 26).grow (Gr.alloc _ (Obj.cells Lk.zero.cs.toArray 85)))
  have HZ0 := Lib.hid (show Box ((w.alloc (Obj.cells r.cs.toArray 26)).alloc (Obj.cells Lk.zero.cs.toArray 85)) (w.heap.size + 1) Lk.zero.cs 85 by
    have := Box.fresh (w.alloc (Obj.cells r.cs.toArray 26)) Lk.zero.cs 85
    simpa using this)
  have HLK := Lib.hid (fun W (hg : Gr w W) => look_any r W (hl.grow hg) (hr.grow hg))
  unfold Rr.cs at HR0 HZ0
  unfold Rr.val at *
  have e0 : r.looked = (r.lkd, 0) := by unfold Rr.looked; rw [hok]; rfl
  rw [e0] at HLK
  have HOK := Lib.hid (Rr.lkd_ok hok)
  have hkl := r.lkd.cs_len
  have HC := Lib.hid (fun W => count_any r.lkd r.lkd.all HOK.out.m HOK.out.r HOK.out.nL HOK.out.nR HOK.out.h W)
  have hc0 : r.lkd.wy r.lkd.all 0 0 r.lkd.h = r.lkd.all0 := rfl
  rw [hc0] at HC
  have hz2 : ((r.lkd.all0 : Int) == 0) = true := by rw [← hz, Bool.eq_iff_iff, beq_iff_eq, beq_iff_eq]; omega
  clear hl hr e0 hc0
  dsimp only at HLK
  go_enter Try.func54, Try.ntmps54
  go_wp2_with (first | (with_reducible refine wpList_stopAlloc (ty := 85) rfl ?_; unfold Stop; refine wpList_alloc85 rfl rfl ?_) | (go_at_call 48; refine (HLK.out _ ((Gr.alloc _ _).tr (Gr.alloc _ _))).mono ?_; rintro e w1 ⟨rfl, hb1⟩; have HG1 := Lib.hid (show Gr _ w1 from hb1); have HR1 := Lib.hid (HR0.out.grow hb1); have HZ1 := Lib.hid (HZ0.out.grow hb1); have HT := Lib.hid (Box.fresh w1 Lk.zero.cs 85); have zl1 := HZ1.out.lt; clear hb1 HR0 HZ0) | (with_reducible refine wpList_stopStore (ty := 85) rfl ?_; unfold Stop; refine wpList_storeBox row85 hkl hzl (lk_one _) HT.out rfl rfl rfl rfl ?_; have HT2 := Lib.hid (show Box ((w1.alloc (Obj.cells Lk.zero.cs.toArray 85)).setRow w1.heap.size r.lkd.cs.toArray) w1.heap.size r.lkd.cs 85 from HT.out.row (vs := r.lkd.cs)); have HG2 := Lib.hid (show Gr w1 ((w1.alloc (Obj.cells Lk.zero.cs.toArray 85)).setRow w1.heap.size r.lkd.cs.toArray) from Gr.row_new w1 _ _ _); generalize (w1.alloc (Obj.cells Lk.zero.cs.toArray 85)).setRow w1.heap.size r.lkd.cs.toArray = w2 at *; have HR2 := Lib.hid (HR1.out.grow HG2.out); have HZ2 := Lib.hid (HZ1.out.grow HG2.out); obtain ⟨r0, r1, r2, r3, r4⟩ := cells5 HR2.out; have rl := HR2.out.lt; clear HR1 HZ1 HT) | (with_reducible refine wpList_stopBuild (ty := 85) rfl ?_; unfold Stop; refine wpList_buildRow HBZ.out rfl rfl (by simp [Act.eval]) ?_))
  go_loopw [21] (fun t wr => t = .int .i64 0 ∧ wr = w2) (fun t _ => 0)
  case atStart => exact ⟨rfl, rfl⟩
  case round =>
    obtain ⟨rfl, rfl⟩ := hrel
    clear r0 r1 r2 r3 r4
    go_wp2_with (first | (with_reducible refine wpList_stopLoad (ty := 85) rfl ?_; unfold Stop; refine wpList_loadBox row85 (r.lkd.cs_len) (HT2.out) rfl rfl rfl ?_) | (with_reducible refine wpList_stopLoad (ty := 83) rfl ?_; unfold Stop; refine wpList_loadPart row83 (opts_len r.lkd.all) (HT2.out) r.lkd.part rfl rfl rfl ?_) | (go_at_call 52; refine (HC.out _).mono ?_; rintro e w4 ⟨rfl, hb4⟩; have HG4 := Lib.hid (show Gr _ w4 from hb4); have HT4 := Lib.hid (HT2.out.grow hb4); have HZ4 := Lib.hid (HZ2.out.grow hb4); clear hb4) | (with_reducible refine wpList_stopStore (ty := 85) rfl ?_; unfold Stop; refine wpList_storeBox row85 hzl hzl (lk_one _) HZ4.out rfl rfl rfl rfl ?_))
    exact bodyPost_ret (v := .tuple #[.agg Lk.zero.cs.toArray, .int .i64 4]) (results_pair85 (HZ4.out.row (vs := Lk.zero.cs)) rfl rfl hzl rfl) rfl ⟨rfl, below_setRow (bgr (((Below.refl _ _).alloc (by first | (simp; done) | (simp; omega) | omega) _).alloc (by first | (simp; done) | (simp; omega) | omega) _) (by first | (simp; done) | (simp; omega) | omega) (Gr.tr (Gr.tr HG1.out HG2.out) HG4.out)) (by first | (simp; done) | (simp; omega) | omega) _⟩
set_option maxRecDepth 100000 in
set_option maxHeartbeats 1000000 in
theorem asks_yes (r : Rr) (w : World) (hl : MksAt r.L r.lp w) (hr : MksAt r.R r.rp w) (hok : r.ok = true) (hz : (r.lkd.all0 == 0) = false) :
    Calls Try.prog 54 #[r.val, .slice none 0 0] w fun e w' => e = .returned (.tuple #[.agg r.lkd.cs.toArray, .int .i64 0]) ∧ Below w.heap.size w w' := by
  have hzl := Lk.zero.cs_len
  have HBZ := Lib.hid built85z
  have HR0 := Lib.hid ((Box.fresh w r.cs 26).grow (Gr.alloc _ (Obj.cells Lk.zero.cs.toArray 85)))
  have HZ0 := Lib.hid (show Box ((w.alloc (Obj.cells r.cs.toArray 26)).alloc (Obj.cells Lk.zero.cs.toArray 85)) (w.heap.size + 1) Lk.zero.cs 85 by
    have := Box.fresh (w.alloc (Obj.cells r.cs.toArray 26)) Lk.zero.cs 85
    simpa using this)
  have HLK := Lib.hid (fun W (hg : Gr w W) => look_any r W (hl.grow hg) (hr.grow hg))
  unfold Rr.cs at HR0 HZ0
  unfold Rr.val at *
  have e0 : r.looked = (r.lkd, 0) := by unfold Rr.looked; rw [hok]; rfl
  rw [e0] at HLK
  have HOK := Lib.hid (Rr.lkd_ok hok)
  have hkl := r.lkd.cs_len
  have HC := Lib.hid (fun W => count_any r.lkd r.lkd.all HOK.out.m HOK.out.r HOK.out.nL HOK.out.nR HOK.out.h W)
  have hc0 : r.lkd.wy r.lkd.all 0 0 r.lkd.h = r.lkd.all0 := rfl
  rw [hc0] at HC
  have hz2 : ((r.lkd.all0 : Int) == 0) = false := by rw [← hz, Bool.eq_iff_iff, beq_iff_eq, beq_iff_eq]; omega
  clear hl hr e0 hc0
  dsimp only at HLK
  go_enter Try.func54, Try.ntmps54
  go_wp2_with (first | (with_reducible refine wpList_stopAlloc (ty := 85) rfl ?_; unfold Stop; refine wpList_alloc85 rfl rfl ?_) | (go_at_call 48; refine (HLK.out _ ((Gr.alloc _ _).tr (Gr.alloc _ _))).mono ?_; rintro e w1 ⟨rfl, hb1⟩; have HG1 := Lib.hid (show Gr _ w1 from hb1); have HR1 := Lib.hid (HR0.out.grow hb1); have HZ1 := Lib.hid (HZ0.out.grow hb1); have HT := Lib.hid (Box.fresh w1 Lk.zero.cs 85); have zl1 := HZ1.out.lt; clear hb1 HR0 HZ0) | (with_reducible refine wpList_stopStore (ty := 85) rfl ?_; unfold Stop; refine wpList_storeBox row85 hkl hzl (lk_one _) HT.out rfl rfl rfl rfl ?_; have HT2 := Lib.hid (show Box ((w1.alloc (Obj.cells Lk.zero.cs.toArray 85)).setRow w1.heap.size r.lkd.cs.toArray) w1.heap.size r.lkd.cs 85 from HT.out.row (vs := r.lkd.cs)); have HG2 := Lib.hid (show Gr w1 ((w1.alloc (Obj.cells Lk.zero.cs.toArray 85)).setRow w1.heap.size r.lkd.cs.toArray) from Gr.row_new w1 _ _ _); generalize (w1.alloc (Obj.cells Lk.zero.cs.toArray 85)).setRow w1.heap.size r.lkd.cs.toArray = w2 at *; have HR2 := Lib.hid (HR1.out.grow HG2.out); have HZ2 := Lib.hid (HZ1.out.grow HG2.out); obtain ⟨r0, r1, r2, r3, r4⟩ := cells5 HR2.out; have rl := HR2.out.lt; clear HR1 HZ1 HT) | (with_reducible refine wpList_stopBuild (ty := 85) rfl ?_; unfold Stop; refine wpList_buildRow HBZ.out rfl rfl (by simp [Act.eval]) ?_))
  go_loopw [21] (fun t wr => t = .int .i64 0 ∧ wr = w2) (fun t _ => 0)
  case atStart => exact ⟨rfl, rfl⟩
  case round =>
    obtain ⟨rfl, rfl⟩ := hrel
    clear r0 r1 r2 r3 r4
    go_wp2_with (first | (with_reducible refine wpList_stopLoad (ty := 85) rfl ?_; unfold Stop; refine wpList_loadBox row85 (r.lkd.cs_len) (HT2.out) rfl rfl rfl ?_) | (with_reducible refine wpList_stopLoad (ty := 83) rfl ?_; unfold Stop; refine wpList_loadPart row83 (opts_len r.lkd.all) (HT2.out) r.lkd.part rfl rfl rfl ?_) | (go_at_call 52; refine (HC.out _).mono ?_; rintro e w4 ⟨rfl, hb4⟩; have HG4 := Lib.hid (show Gr _ w4 from hb4); have HT4 := Lib.hid (HT2.out.grow hb4); have HZ4 := Lib.hid (HZ2.out.grow hb4); clear hb4) | (with_reducible refine wpList_stopLoad (ty := 85) rfl ?_; unfold Stop; refine wpList_loadBox row85 (r.lkd.cs_len) (HT4.out) rfl rfl rfl ?_) | (with_reducible refine wpList_stopStore (ty := 85) rfl ?_; unfold Stop; refine wpList_storeBox row85 hkl hzl (lk_one _) HZ4.out rfl rfl rfl rfl ?_))
    exact bodyPost_ret (v := .tuple #[.agg r.lkd.cs.toArray, .int .i64 0]) (results_pair85 (HZ4.out.row (vs := r.lkd.cs)) rfl rfl hkl rfl) rfl ⟨rfl, below_setRow (bgr (((Below.refl _ _).alloc (by first | (simp; done) | (simp; omega) | omega) _).alloc (by first | (simp; done) | (simp; omega) | omega) _) (by first | (simp; done) | (simp; omega) | omega) (Gr.tr (Gr.tr HG1.out HG2.out) HG4.out)) (by first | (simp; done) | (simp; omega) | omega) _⟩
set_option maxRecDepth 100000 in
set_option maxHeartbeats 1000000 in
theorem asks_zeroL (r : Rr) (bs : Nat) (i : Int) (T0 : TypeId) (w : World) (hl : MksAt r.L r.lp w) (hr : MksAt r.R r.rp w) (hok : r.ok = true) (hbs : Box w bs [.int .i64 i] T0) (hm : (decide (0 ≤ i) && decide (i < r.L.length)) = true) (hz : (r.lkd.all0 == 0) = true) :
    Calls Try.prog 54 #[r.val, .slice (some ⟨bs, 0, none⟩) 1 1] w fun e w' => e = .returned (.tuple #[.agg Lk.zero.cs.toArray, .int .i64 4]) ∧ Below w.heap.size w w' := by
  have hzl := Lk.zero.cs_len
  have HBZ := Lib.hid built85z
  have HR0 := Lib.hid ((Box.fresh w r.cs 26).grow (Gr.alloc _ (Obj.cells Lk.zero.cs.toArray 85)))
  have HZ0 := Lib.hid (show Box ((w.alloc (Obj.cells r.cs.toArray 26)).alloc (Obj.cells Lk.zero.cs.toArray 85)) (w.heap.size + 1) Lk.zero.cs 85 by
    have := Box.fresh (w.alloc (Obj.cells r.cs.toArray 26)) Lk.zero.cs 85
    simpa using this)
  have HLK := Lib.hid (fun W (hg : Gr w W) => look_any r W (hl.grow hg) (hr.grow hg))
  unfold Rr.cs at HR0 HZ0
  unfold Rr.val at *
  have e0 : r.looked = (r.lkd, 0) := by unfold Rr.looked; rw [hok]; rfl
  rw [e0] at HLK
  have HOK := Lib.hid (Rr.lkd_ok hok)
  have hkl := r.lkd.cs_len
  have HC := Lib.hid (fun W => count_any r.lkd r.lkd.all HOK.out.m HOK.out.r HOK.out.nL HOK.out.nR HOK.out.h W)
  have hc0 : r.lkd.wy r.lkd.all 0 0 r.lkd.h = r.lkd.all0 := rfl
  rw [hc0] at HC
  have HBS := Lib.hid hbs
  have HIM := Lib.hid (fun p c W => isMark_any i p r.L.length c W)
  rw [hm] at HIM
  have hz2 : ((r.lkd.all0 : Int) == 0) = true := by rw [← hz, Bool.eq_iff_iff, beq_iff_eq, beq_iff_eq]; omega
  clear hl hr e0 hc0 hbs
  dsimp only at HLK
  go_enter Try.func54, Try.ntmps54
  go_wp2_with (first | (with_reducible refine wpList_stopAlloc (ty := 85) rfl ?_; unfold Stop; refine wpList_alloc85 rfl rfl ?_) | (go_at_call 48; refine (HLK.out _ ((Gr.alloc _ _).tr (Gr.alloc _ _))).mono ?_; rintro e w1 ⟨rfl, hb1⟩; have HG1 := Lib.hid (show Gr _ w1 from hb1); have HR1 := Lib.hid (HR0.out.grow hb1); have HZ1 := Lib.hid (HZ0.out.grow hb1); have HT := Lib.hid (Box.fresh w1 Lk.zero.cs 85); have zl1 := HZ1.out.lt; clear hb1 HR0 HZ0) | (with_reducible refine wpList_stopStore (ty := 85) rfl ?_; unfold Stop; refine wpList_storeBox row85 hkl hzl (lk_one _) HT.out rfl rfl rfl rfl ?_; have HT2 := Lib.hid (show Box ((w1.alloc (Obj.cells Lk.zero.cs.toArray 85)).setRow w1.heap.size r.lkd.cs.toArray) w1.heap.size r.lkd.cs 85 from HT.out.row (vs := r.lkd.cs)); have HG2 := Lib.hid (show Gr w1 ((w1.alloc (Obj.cells Lk.zero.cs.toArray 85)).setRow w1.heap.size r.lkd.cs.toArray) from Gr.row_new w1 _ _ _); generalize (w1.alloc (Obj.cells Lk.zero.cs.toArray 85)).setRow w1.heap.size r.lkd.cs.toArray = w2 at *; have HR2 := Lib.hid (HR1.out.grow HG2.out); have HZ2 := Lib.hid (HZ1.out.grow HG2.out); obtain ⟨r0, r1, r2, r3, r4⟩ := cells5 HR2.out; have rl := HR2.out.lt; clear HR1 HZ1 HT; have bs0 := (HBS.out.grow ((Gr.alloc _ _).tr ((Gr.alloc _ _).tr (Gr.tr HG1.out HG2.out)))).cell (i := 0) rfl; have bsl := (HBS.out.grow ((Gr.alloc _ _).tr ((Gr.alloc _ _).tr (Gr.tr HG1.out HG2.out)))).lt) | (with_reducible refine wpList_stopBuild (ty := 85) rfl ?_; unfold Stop; refine wpList_buildRow HBZ.out rfl rfl (by simp [Act.eval]) ?_))
  go_loopw [21] (fun t wr => (t = .int .i64 0 ∧ wr = w2) ∨ (t = .int .i64 1 ∧ Hid (Gr w2 wr))) (fun t _ => (5 - intOf t).toNat)
  case atStart => exact .inl ⟨rfl, rfl⟩
  case round =>
    rcases hrel with ⟨rfl, rfl⟩ | ⟨rfl, HG3⟩
    · go_wp2_with (go_at_call 49; refine (HIM.out _ _ _).mono ?_; rintro e w3 ⟨rfl, hb3⟩)
      exact ⟨.inr ⟨by go_num, Lib.hid hb3⟩, by simp [intOf]⟩
    · have HT3 := Lib.hid (HT2.out.grow HG3.out)
      have HZ3 := Lib.hid (HZ2.out.grow HG3.out)
      clear r0 r1 r2 r3 r4 bs0
      go_wp2_with (first | (with_reducible refine wpList_stopLoad (ty := 85) rfl ?_; unfold Stop; refine wpList_loadBox row85 (r.lkd.cs_len) (HT3.out) rfl rfl rfl ?_) | (with_reducible refine wpList_stopLoad (ty := 83) rfl ?_; unfold Stop; refine wpList_loadPart row83 (opts_len r.lkd.all) (HT3.out) r.lkd.part rfl rfl rfl ?_) | (go_at_call 52; refine (HC.out _).mono ?_; rintro e w4 ⟨rfl, hb4⟩; have HG4 := Lib.hid (show Gr _ w4 from hb4); have HT4 := Lib.hid (HT3.out.grow hb4); have HZ4 := Lib.hid (HZ3.out.grow hb4); clear hb4) | (with_reducible refine wpList_stopStore (ty := 85) rfl ?_; unfold Stop; refine wpList_storeBox row85 hzl hzl (lk_one _) HZ4.out rfl rfl rfl rfl ?_))
      exact bodyPost_ret (v := .tuple #[.agg Lk.zero.cs.toArray, .int .i64 4]) (results_pair85 (HZ4.out.row (vs := Lk.zero.cs)) rfl rfl hzl rfl) rfl ⟨rfl, below_setRow (bgr (((Below.refl _ _).alloc (by first | (simp; done) | (simp; omega) | omega) _).alloc (by first | (simp; done) | (simp; omega) | omega) _) (by first | (simp; done) | (simp; omega) | omega) (Gr.tr (Gr.tr (Gr.tr HG1.out HG2.out) HG3.out) HG4.out)) (by first | (simp; done) | (simp; omega) | omega) _⟩
set_option maxRecDepth 100000 in
set_option maxHeartbeats 1000000 in
theorem asks_yesL (r : Rr) (bs : Nat) (i : Int) (T0 : TypeId) (w : World) (hl : MksAt r.L r.lp w) (hr : MksAt r.R r.rp w) (hok : r.ok = true) (hbs : Box w bs [.int .i64 i] T0) (hm : (decide (0 ≤ i) && decide (i < r.L.length)) = true) (hz : (r.lkd.all0 == 0) = false) :
    Calls Try.prog 54 #[r.val, .slice (some ⟨bs, 0, none⟩) 1 1] w fun e w' => e = .returned (.tuple #[.agg r.lkd.cs.toArray, .int .i64 0]) ∧ Below w.heap.size w w' := by
  have hzl := Lk.zero.cs_len
  have HBZ := Lib.hid built85z
  have HR0 := Lib.hid ((Box.fresh w r.cs 26).grow (Gr.alloc _ (Obj.cells Lk.zero.cs.toArray 85)))
  have HZ0 := Lib.hid (show Box ((w.alloc (Obj.cells r.cs.toArray 26)).alloc (Obj.cells Lk.zero.cs.toArray 85)) (w.heap.size + 1) Lk.zero.cs 85 by
    have := Box.fresh (w.alloc (Obj.cells r.cs.toArray 26)) Lk.zero.cs 85
    simpa using this)
  have HLK := Lib.hid (fun W (hg : Gr w W) => look_any r W (hl.grow hg) (hr.grow hg))
  unfold Rr.cs at HR0 HZ0
  unfold Rr.val at *
  have e0 : r.looked = (r.lkd, 0) := by unfold Rr.looked; rw [hok]; rfl
  rw [e0] at HLK
  have HOK := Lib.hid (Rr.lkd_ok hok)
  have hkl := r.lkd.cs_len
  have HC := Lib.hid (fun W => count_any r.lkd r.lkd.all HOK.out.m HOK.out.r HOK.out.nL HOK.out.nR HOK.out.h W)
  have hc0 : r.lkd.wy r.lkd.all 0 0 r.lkd.h = r.lkd.all0 := rfl
  rw [hc0] at HC
  have HBS := Lib.hid hbs
  have HIM := Lib.hid (fun p c W => isMark_any i p r.L.length c W)
  rw [hm] at HIM
  have hz2 : ((r.lkd.all0 : Int) == 0) = false := by rw [← hz, Bool.eq_iff_iff, beq_iff_eq, beq_iff_eq]; omega
  clear hl hr e0 hc0 hbs
  dsimp only at HLK
  go_enter Try.func54, Try.ntmps54
  go_wp2_with (first | (with_reducible refine wpList_stopAlloc (ty := 85) rfl ?_; unfold Stop; refine wpList_alloc85 rfl rfl ?_) | (go_at_call 48; refine (HLK.out _ ((Gr.alloc _ _).tr (Gr.alloc _ _))).mono ?_; rintro e w1 ⟨rfl, hb1⟩; have HG1 := Lib.hid (show Gr _ w1 from hb1); have HR1 := Lib.hid (HR0.out.grow hb1); have HZ1 := Lib.hid (HZ0.out.grow hb1); have HT := Lib.hid (Box.fresh w1 Lk.zero.cs 85); have zl1 := HZ1.out.lt; clear hb1 HR0 HZ0) | (with_reducible refine wpList_stopStore (ty := 85) rfl ?_; unfold Stop; refine wpList_storeBox row85 hkl hzl (lk_one _) HT.out rfl rfl rfl rfl ?_; have HT2 := Lib.hid (show Box ((w1.alloc (Obj.cells Lk.zero.cs.toArray 85)).setRow w1.heap.size r.lkd.cs.toArray) w1.heap.size r.lkd.cs 85 from HT.out.row (vs := r.lkd.cs)); have HG2 := Lib.hid (show Gr w1 ((w1.alloc (Obj.cells Lk.zero.cs.toArray 85)).setRow w1.heap.size r.lkd.cs.toArray) from Gr.row_new w1 _ _ _); generalize (w1.alloc (Obj.cells Lk.zero.cs.toArray 85)).setRow w1.heap.size r.lkd.cs.toArray = w2 at *; have HR2 := Lib.hid (HR1.out.grow HG2.out); have HZ2 := Lib.hid (HZ1.out.grow HG2.out); obtain ⟨r0, r1, r2, r3, r4⟩ := cells5 HR2.out; have rl := HR2.out.lt; clear HR1 HZ1 HT; have bs0 := (HBS.out.grow ((Gr.alloc _ _).tr ((Gr.alloc _ _).tr (Gr.tr HG1.out HG2.out)))).cell (i := 0) rfl; have bsl := (HBS.out.grow ((Gr.alloc _ _).tr ((Gr.alloc _ _).tr (Gr.tr HG1.out HG2.out)))).lt) | (with_reducible refine wpList_stopBuild (ty := 85) rfl ?_; unfold Stop; refine wpList_buildRow HBZ.out rfl rfl (by simp [Act.eval]) ?_))
  go_loopw [21] (fun t wr => (t = .int .i64 0 ∧ wr = w2) ∨ (t = .int .i64 1 ∧ Hid (Gr w2 wr))) (fun t _ => (5 - intOf t).toNat)
  case atStart => exact .inl ⟨rfl, rfl⟩
  case round =>
    rcases hrel with ⟨rfl, rfl⟩ | ⟨rfl, HG3⟩
    · go_wp2_with (go_at_call 49; refine (HIM.out _ _ _).mono ?_; rintro e w3 ⟨rfl, hb3⟩)
      exact ⟨.inr ⟨by go_num, Lib.hid hb3⟩, by simp [intOf]⟩
    · have HT3 := Lib.hid (HT2.out.grow HG3.out)
      have HZ3 := Lib.hid (HZ2.out.grow HG3.out)
      clear r0 r1 r2 r3 r4 bs0
      go_wp2_with (first | (with_reducible refine wpList_stopLoad (ty := 85) rfl ?_; unfold Stop; refine wpList_loadBox row85 (r.lkd.cs_len) (HT3.out) rfl rfl rfl ?_) | (with_reducible refine wpList_stopLoad (ty := 83) rfl ?_; unfold Stop; refine wpList_loadPart row83 (opts_len r.lkd.all) (HT3.out) r.lkd.part rfl rfl rfl ?_) | (go_at_call 52; refine (HC.out _).mono ?_; rintro e w4 ⟨rfl, hb4⟩; have HG4 := Lib.hid (show Gr _ w4 from hb4); have HT4 := Lib.hid (HT3.out.grow hb4); have HZ4 := Lib.hid (HZ3.out.grow hb4); clear hb4) | (with_reducible refine wpList_stopLoad (ty := 85) rfl ?_; unfold Stop; refine wpList_loadBox row85 (r.lkd.cs_len) (HT4.out) rfl rfl rfl ?_) | (with_reducible refine wpList_stopStore (ty := 85) rfl ?_; unfold Stop; refine wpList_storeBox row85 hkl hzl (lk_one _) HZ4.out rfl rfl rfl rfl ?_))
      exact bodyPost_ret (v := .tuple #[.agg r.lkd.cs.toArray, .int .i64 0]) (results_pair85 (HZ4.out.row (vs := r.lkd.cs)) rfl rfl hkl rfl) rfl ⟨rfl, below_setRow (bgr (((Below.refl _ _).alloc (by first | (simp; done) | (simp; omega) | omega) _).alloc (by first | (simp; done) | (simp; omega) | omega) _) (by first | (simp; done) | (simp; omega) | omega) (Gr.tr (Gr.tr (Gr.tr HG1.out HG2.out) HG3.out) HG4.out)) (by first | (simp; done) | (simp; omega) | omega) _⟩

theorem asks_any (r : Rr) (w : World) (hl : MksAt r.L r.lp w) (hr : MksAt r.R r.rp w) :
    Calls Try.prog 54 #[r.val, .slice none 0 0] w fun e w' => e = .returned (.tuple #[.agg (r.asked true).1.cs.toArray, .int .i64 (r.asked true).2]) ∧ Below w.heap.size w w' := by
  unfold Rr.asked
  cases h : r.ok with
  | false => exact asks_no r w hl hr h
  | true =>
    cases h2 : r.lkd.all0 == 0 with
    | true =>
      have : r.lkd.all0 = 0 := by simpa using h2
      simp only [this, if_true]
      exact asks_zero r w hl hr h h2
    | false =>
      have : ¬ r.lkd.all0 = 0 := by simpa using h2
      simp only [this, if_true, if_false]
      exact asks_yes r w hl hr h h2
theorem asksL_any (r : Rr) (bs : Nat) (i : Int) (T0 : TypeId) (w : World) (hl : MksAt r.L r.lp w) (hr : MksAt r.R r.rp w) (hbs : Box w bs [.int .i64 i] T0) :
    Calls Try.prog 54 #[r.val, .slice (some ⟨bs, 0, none⟩) 1 1] w fun e w' => e = .returned (.tuple #[.agg (r.asked (decide (0 ≤ i) && decide (i < r.L.length))).1.cs.toArray, .int .i64 (r.asked (decide (0 ≤ i) && decide (i < r.L.length))).2]) ∧ Below w.heap.size w w' := by
  unfold Rr.asked
  cases h : r.ok with
  | false => exact asks_noL r bs w hl hr h
  | true =>
    cases hm : decide (0 ≤ i) && decide (i < r.L.length) with
    | false => exact asks_rangeL r bs i T0 w hl hr h hbs hm
    | true =>
      cases h2 : r.lkd.all0 == 0 with
      | true =>
        have : r.lkd.all0 = 0 := by simpa using h2
        simp only [this, if_true]
        exact asks_zeroL r bs i T0 w hl hr h hbs hm h2
      | false =>
        have : ¬ r.lkd.all0 = 0 := by simpa using h2
        simp only [this, if_true, if_false]
        exact asks_yesL r bs i T0 w hl hr h hbs hm h2

end Go.Proofs.Ytjlaoiimbhlafaa
