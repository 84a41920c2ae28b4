import Derived.Test.YtjlaoiimbhlafaaC33
import Derived.Deep.OwnRows
import Derived.Laws.OwnMore
set_option linter.unusedVariables false
set_option linter.unusedSimpArgs false
namespace Go.Proofs.Ytjlaoiimbhlafaa
open Go.RowKit Go.Shelf

open MW
attribute [local go_sem] Oper.semAt_some run_store_func
theorem info3r : (Try.prog.info? 3).map (fun i => (i.zero, i.size, i.bytes)) = some (some (.int .i64 0), 1, 8) := by kernel_rfl
theorem Rr.q0 (r : Rr) : r.lkd.cs[0]? = some (.slice r.lp r.L.length r.lc) := rfl
theorem Rr.q1 (r : Rr) : r.lkd.cs[1]? = some (.slice r.rp r.R.length r.rc) := rfl
def vls (F : Nat → Int) (i n : Nat) : List Value := (List.range n).map fun j => .int .i64 (if j < i then F j else 0)
theorem vls_len (F : Nat → Int) (i n : Nat) : (vls F i n).length = n := by unfold vls; simp
theorem vls_zero (F : Nat → Int) (n : Nat) : (madeCells #[Value.int .i64 0] n) = (vls F 0 n).toArray := by
  apply Array.toList_inj.1
  rw [toList_madeCells_one]
  unfold vls
  apply List.ext_getElem?
  intro j
  by_cases hj : j < n
  · simp [hj]
  · simp [hj]
theorem vls_at (F : Nat → Int) {i n j : Nat} (h : j < n) : (vls F i n)[j]? = some (.int .i64 (if j < i then F j else 0)) := by unfold vls; simp [h]
theorem vls_set (F : Nat → Int) {i n : Nat} (h : i < n) : (vls F i n).set i (.int .i64 (F i)) = vls F (i + 1) n := by
  apply List.ext_getElem?
  intro j
  rw [List.getElem?_set]
  by_cases hij : i = j
  · subst hij
    rw [if_pos rfl, if_pos (by rw [vls_len]; exact h), vls_at F h, if_pos (Nat.lt_succ_self i)]
  · rw [if_neg hij]
    by_cases hj : j < n
    · rw [vls_at F hj, vls_at F hj]
      by_cases hji : j < i
      · rw [if_pos hji, if_pos (by omega)]
      · rw [if_neg hji, if_neg (by omega)]
    · unfold vls; simp [hj]
def ivs (l : List Int) : List Value := l.map fun x => .int .i64 x
theorem vls_full (F : Nat → Int) (n : Nat) : vls F n n = ivs ((List.range n).map F) := by
  unfold vls ivs
  rw [List.map_map]
  apply List.map_congr_left
  intro j hj
  simp [List.mem_range.1 hj]
/-- A row of ints of its own, and a number. -/
def InPost (w : World) (l : List Int) (c : Int) (e : Ending) (w' : World) : Prop := (∃ v, e = .returned (.tuple #[v, .int .i64 c]) ∧ w'.ownsRow w.heap.size 3 1 v l.length (ivs l)) ∧ Below w.heap.size w w'
theorem Box.owns {w : World} {g base : Nat} {l : List Int} (h : Box w g (ivs l) 3) (hb : base ≤ g) (hl : l.length ≤ 1000) : w.ownsRow base 3 1 (.slice (some ⟨g, 0, none⟩) l.length l.length) l.length (ivs l) := by
  have e : (ivs l).length = l.length := by unfold ivs; simp
  exact ⟨by rw [e]; omega, Or.inr ⟨g, l.length, (ivs l).toArray, rfl, hb, h, Nat.le_refl _, by unfold maxLen; omega, by simp [e], by rw [List.toList_toArray, List.take_of_length_le (by rw [e]; omega)]⟩⟩
set_option maxRecDepth 100000 in
set_option maxHeartbeats 2000000 in
theorem can_no (r : Rr) (w : World) (hl : MksAt r.L r.lp w) (hr : MksAt r.R r.rp w) (hok : r.ok = false) :
    Calls Try.prog 23 #[r.val] w (InPost w [] 1) := by
  have hzl := Lk.zero.cs_len
  have HR0 := Lib.hid (Box.fresh w r.cs 26)
  have HLK := Lib.hid (fun W (hg : Gr w W) => asks_any r W (hl.grow hg) (hr.grow hg))
  unfold Rr.cs at HR0
  unfold Rr.val at *
  have e0 : r.asked true = (Lk.zero, 1) := by unfold Rr.asked; rw [hok]; rfl
  rw [e0] at HLK
  clear hl hr e0
  dsimp only at HLK
  go_enter Try.func23, Try.ntmps23
  go_wp2_with (first | (with_reducible refine wpList_stopAlloc (ty := 85) rfl ?_; unfold Stop; refine wpList_alloc85 rfl rfl ?_) | (go_at_call 54; refine (HLK.out _ (Gr.alloc _ _)).mono ?_; rintro e w1 ⟨rfl, hb1⟩; have HG1 := Lib.hid (show Gr _ w1 from hb1); have HR1 := Lib.hid (HR0.out.grow hb1); have HT := Lib.hid (Box.fresh w1 Lk.zero.cs 85); clear hb1 HR0) | (with_reducible refine wpList_stopStore (ty := 85) rfl ?_; unfold Stop; refine wpList_storeBox row85 hzl hzl (lk_one _) HT.out rfl rfl rfl rfl ?_; have HT2 := Lib.hid (show Box ((w1.alloc (Obj.cells Lk.zero.cs.toArray 85)).setRow w1.heap.size Lk.zero.cs.toArray) w1.heap.size Lk.zero.cs 85 from HT.out.row (vs := Lk.zero.cs)); have HG2 := Lib.hid (show Gr w1 ((w1.alloc (Obj.cells Lk.zero.cs.toArray 85)).setRow w1.heap.size Lk.zero.cs.toArray) from Gr.row_new w1 _ _ _); generalize (w1.alloc (Obj.cells Lk.zero.cs.toArray 85)).setRow w1.heap.size Lk.zero.cs.toArray = w2 at *; have HR2 := Lib.hid (HR1.out.grow HG2.out); obtain ⟨r0, r1, r2, r3, r4⟩ := cells5 HR2.out; have rl := HR2.out.lt; clear HR1 HT))
  exact bodyPost_ret (v := .tuple #[.slice none 0 0, .int .i64 1]) (by simp [results, Try.f23, go_sem]) rfl ⟨⟨_, rfl, World.ownsRow_nil _ _ _ _⟩, (bgr ((Below.refl _ _).alloc (by first | (simp; done) | (simp; omega) | omega) _) (by first | (simp; done) | (simp; omega) | omega) (Gr.tr HG1.out HG2.out))⟩
set_option maxRecDepth 100000 in
set_option maxHeartbeats 2000000 in
theorem can_zero (r : Rr) (w : World) (hl : MksAt r.L r.lp w) (hr : MksAt r.R r.rp w) (hok : r.ok = true) (hz : r.lkd.all0 = 0) :
    Calls Try.prog 23 #[r.val] w (InPost w [] 4) := by
  have hzl := Lk.zero.cs_len
  have HR0 := Lib.hid (Box.fresh w r.cs 26)
  have HLK := Lib.hid (fun W (hg : Gr w W) => asks_any r W (hl.grow hg) (hr.grow hg))
  unfold Rr.cs at HR0
  unfold Rr.val at *
  have e0 : r.asked true = (Lk.zero, 4) := by unfold Rr.asked; rw [hok]; simp [hz]
  rw [e0] at HLK
  clear hl hr e0
  dsimp only at HLK
  go_enter Try.func23, Try.ntmps23
  go_wp2_with (first | (with_reducible refine wpList_stopAlloc (ty := 85) rfl ?_; unfold Stop; refine wpList_alloc85 rfl rfl ?_) | (go_at_call 54; refine (HLK.out _ (Gr.alloc _ _)).mono ?_; rintro e w1 ⟨rfl, hb1⟩; have HG1 := Lib.hid (show Gr _ w1 from hb1); have HR1 := Lib.hid (HR0.out.grow hb1); have HT := Lib.hid (Box.fresh w1 Lk.zero.cs 85); clear hb1 HR0) | (with_reducible refine wpList_stopStore (ty := 85) rfl ?_; unfold Stop; refine wpList_storeBox row85 hzl hzl (lk_one _) HT.out rfl rfl rfl rfl ?_; have HT2 := Lib.hid (show Box ((w1.alloc (Obj.cells Lk.zero.cs.toArray 85)).setRow w1.heap.size Lk.zero.cs.toArray) w1.heap.size Lk.zero.cs 85 from HT.out.row (vs := Lk.zero.cs)); have HG2 := Lib.hid (show Gr w1 ((w1.alloc (Obj.cells Lk.zero.cs.toArray 85)).setRow w1.heap.size Lk.zero.cs.toArray) from Gr.row_new w1 _ _ _); generalize (w1.alloc (Obj.cells Lk.zero.cs.toArray 85)).setRow w1.heap.size Lk.zero.cs.toArray = w2 at *; have HR2 := Lib.hid (HR1.out.grow HG2.out); obtain ⟨r0, r1, r2, r3, r4⟩ := cells5 HR2.out; have rl := HR2.out.lt; clear HR1 HT))
  exact bodyPost_ret (v := .tuple #[.slice none 0 0, .int .i64 4]) (by simp [results, Try.f23, go_sem]) rfl ⟨⟨_, rfl, World.ownsRow_nil _ _ _ _⟩, (bgr ((Below.refl _ _).alloc (by first | (simp; done) | (simp; omega) | omega) _) (by first | (simp; done) | (simp; omega) | omega) (Gr.tr HG1.out HG2.out))⟩
set_option maxRecDepth 100000 in
set_option maxHeartbeats 2000000 in
theorem can_yes (r : Rr) (w : World) (hl : MksAt r.L r.lp w) (hr : MksAt r.R r.rp w) (hok : r.ok = true) (hz : r.lkd.all0 ≠ 0) :
    Calls Try.prog 23 #[r.val] w (InPost w ((List.range r.L.length).map (fun j => (r.lkd.ptn j : Int))) 0) := by
  have hzl := Lk.zero.cs_len
  have HR0 := Lib.hid (Box.fresh w r.cs 26)
  have HLK := Lib.hid (fun W (hg : Gr w W) => asks_any r W (hl.grow hg) (hr.grow hg))
  unfold Rr.cs at HR0
  unfold Rr.val at *
  have e0 : r.asked true = (r.lkd, 0) := by unfold Rr.asked; rw [hok]; simp [hz]
  rw [e0] at HLK
  clear hl hr e0
  dsimp only at HLK
  have hkl := r.lkd.cs_len
  have HOK := Lib.hid (Rr.lkd_ok hok)
  have hL10 : r.L.length ≤ 10 := HOK.out.nL
  obtain ⟨i0, ii0, iz0, iz1, iz2⟩ := infoP info3r
  have II0 := Lib.hid ii0
  have IZ0 := Lib.hid iz0
  have IZ1 := Lib.hid iz1
  have IZ2 := Lib.hid iz2
  have hby : i0.bytes * r.L.length ≤ 281474976710656 := by rw [iz2]; omega
  have hb63 : r.L.length ≤ 9223372036854775807 := by omega
  clear ii0 iz0 iz1 iz2
  clear hz
  have HP := Lib.hid (fun i W (h : i < r.L.length) => partners_any r.lkd i W HOK.out h)
  obtain ⟨F, hF⟩ : ∃ F : Nat → Int, F = (fun j => (r.lkd.ptn j : Int)) := ⟨_, rfl⟩
  have HF := Lib.hid hF
  clear hF
  go_enter Try.func23, Try.ntmps23
  go_wp2_with (first | (with_reducible refine wpList_stopAlloc (ty := 85) rfl ?_; unfold Stop; refine wpList_alloc85 rfl rfl ?_) | (go_at_call 54; refine (HLK.out _ (Gr.alloc _ _)).mono ?_; rintro e w1 ⟨rfl, hb1⟩; have HG1 := Lib.hid (show Gr _ w1 from hb1); have HR1 := Lib.hid (HR0.out.grow hb1); have HT := Lib.hid (Box.fresh w1 Lk.zero.cs 85); clear hb1 HR0) | (with_reducible refine wpList_stopStore (ty := 85) rfl ?_; unfold Stop; refine wpList_storeBox row85 hkl hzl (lk_one _) HT.out rfl rfl rfl rfl ?_; have HT2 := Lib.hid (show Box ((w1.alloc (Obj.cells Lk.zero.cs.toArray 85)).setRow w1.heap.size r.lkd.cs.toArray) w1.heap.size r.lkd.cs 85 from HT.out.row (vs := r.lkd.cs)); have HG2 := Lib.hid (show Gr w1 ((w1.alloc (Obj.cells Lk.zero.cs.toArray 85)).setRow w1.heap.size r.lkd.cs.toArray) from Gr.row_new w1 _ _ _); generalize (w1.alloc (Obj.cells Lk.zero.cs.toArray 85)).setRow w1.heap.size r.lkd.cs.toArray = w2 at *; have HR2 := Lib.hid (HR1.out.grow HG2.out); obtain ⟨r0, r1, r2, r3, r4⟩ := cells5 HR2.out; have rl := HR2.out.lt; have t0 : w2.cell? ⟨w1.heap.size, 0, none⟩ = some (.slice r.lp r.L.length r.lc) := HT2.out.cell r.q0; have tl := HT2.out.lt; clear HR1 HT) | (at_make; refine wpList_make_row _ rfl _ _ 39 rfl 3 i0 (.int .i64 0) Try.underlying39 II0.out IZ0.out IZ1.out rfl .i64 .i64 r.L.length rfl rfl hby hb63 ?_))
  have hs1 : w.heap.size + 1 ≤ w1.heap.size := by have := HG1.out.size; simpa using this
  have hs2 : w1.heap.size < w2.heap.size := HT2.out.lt
  rw [vls_zero F]
  have HV := Lib.hid (Box.fresh w2 (vls F 0 r.L.length) 3)
  have HX := Lib.hid (HT2.out.grow (Gr.alloc w2 (Obj.cells (vls F 0 r.L.length).toArray 3)))
  have HBL := Lib.hid (show Below w.heap.size w (w2.alloc (Obj.cells (vls F 0 r.L.length).toArray 3)) from bgr ((Below.refl _ _).alloc (by first | (simp; done) | (simp; omega) | omega) _) (by first | (simp; done) | (simp; omega) | omega) ((Gr.tr HG1.out HG2.out).tr (Gr.alloc w2 (Obj.cells (vls F 0 r.L.length).toArray 3))))
  clear r0 r1 r2 r3 r4 rl HT2 HLK
  generalize hg2 : w2.heap.size = g at *
  generalize w2.alloc (Obj.cells (vls F 0 r.L.length).toArray 3) = w3 at *
  go_loopw [23] (fun t wr => ∃ i : Nat, i ≤ r.L.length ∧ t = .int .i64 i ∧ Hid (Box wr g (vls F i r.L.length) 3) ∧ Hid (Box wr w1.heap.size r.lkd.cs 85) ∧ Hid (Below w.heap.size w wr)) (fun t _ => (20 - intOf t).toNat)
  case atStart => exact ⟨0, Nat.zero_le _, rfl, HV, HX, HBL⟩
  case round =>
    clear HV HX HBL
    obtain ⟨i, hi, rfl, HV, HX, HBL⟩ := hrel
    by_cases hlt : i < r.L.length
    · have h1 : (i : Int) < r.L.length := by omega
      have HQ := Lib.hid (fun W => HP.out i W hlt)
      have hFi : F i = (fun j => (r.lkd.ptn j : Int)) i := by rw [HF.out]
      dsimp only at hFi
      have HFI := Lib.hid hFi
      rw [← hFi] at HQ
      clear hFi
      go_wp2_with (first | (with_reducible refine wpList_stopLoad (ty := 85) rfl ?_; unfold Stop; refine wpList_loadBox row85 (r.lkd.cs_len) (HX.out) rfl rfl rfl ?_) | (go_at_call 59; refine (HQ.out _).mono ?_; rintro e w4 ⟨rfl, hb4⟩; have HG4 := Lib.hid (show Gr _ w4 from hb4); have HV4 := Lib.hid (HV.out.grow hb4); have f4 := HV4.out.free (i := i); have z4 := HV4.out.cell (vls_at F hlt); have l4 := HV4.out.lt; clear hb4))
      have ho := Only.set w4 (b := g) i (.int .i64 (F i))
      have hv := HV4.out.put i (.int .i64 (F i))
      rw [vls_set F hlt] at hv
      exact ⟨⟨i + 1, by omega, by go_num, Lib.hid hv, Lib.hid (ho.box (HX.out.grow HG4.out) (by omega)), Lib.hid ((bgr HBL.out HBL.out.size HG4.out).setCell (by simp; omega) _)⟩, by simp [intOf]; omega⟩
    · have hin : i = r.L.length := by omega
      subst hin
      go_wp2_with fail
      have hv := HV.out
      rw [vls_full, HF.out] at hv
      have := Box.owns hv (show w.heap.size ≤ g by omega) (by simp; omega)
      refine bodyPost_ret (v := .tuple #[.slice (some ⟨g, 0, none⟩) r.L.length r.L.length, .int .i64 0]) (by simp [results, Try.f23, go_sem]) rfl ⟨⟨.slice (some ⟨g, 0, none⟩) r.L.length r.L.length, rfl, ?_⟩, HBL.out⟩
      simp only [List.length_map, List.length_range] at this ⊢
      exact this
/-- What Can tells. -/
def Rr.can (r : Rr) : List Int × Int := if r.ok then (if r.lkd.all0 = 0 then ([], 4) else ((List.range r.L.length).map (fun j => (r.lkd.ptn j : Int)), 0)) else ([], 1)
theorem Can_any (r : Rr) (w : World) (hl : MksAt r.L r.lp w) (hr : MksAt r.R r.rp w) :
    Calls Try.prog 23 #[r.val] w (InPost w r.can.1 r.can.2) := by
  unfold Rr.can
  cases h : r.ok with
  | false => exact can_no r w hl hr h
  | true =>
    by_cases hz : r.lkd.all0 = 0
    · simp only [if_pos hz, if_true]
      exact can_zero r w hl hr h hz
    · simp only [if_neg hz, if_true]
      exact can_yes r w hl hr h hz
set_option maxRecDepth 100000 in
set_option maxHeartbeats 2000000 in
theorem surely_no (r : Rr) (w : World) (hl : MksAt r.L r.lp w) (hr : MksAt r.R r.rp w) (hok : r.ok = false) :
    Calls Try.prog 25 #[r.val] w (InPost w [] 1) := by
  have hzl := Lk.zero.cs_len
  have HR0 := Lib.hid (Box.fresh w r.cs 26)
  have HLK := Lib.hid (fun W (hg : Gr w W) => asks_any r W (hl.grow hg) (hr.grow hg))
  unfold Rr.cs at HR0
  unfold Rr.val at *
  have e0 : r.asked true = (Lk.zero, 1) := by unfold Rr.asked; rw [hok]; rfl
  rw [e0] at HLK
  clear hl hr e0
  dsimp only at HLK
  go_enter Try.func25, Try.ntmps25
  go_wp2_with (first | (with_reducible refine wpList_stopAlloc (ty := 85) rfl ?_; unfold Stop; refine wpList_alloc85 rfl rfl ?_) | (go_at_call 54; refine (HLK.out _ (Gr.alloc _ _)).mono ?_; rintro e w1 ⟨rfl, hb1⟩; have HG1 := Lib.hid (show Gr _ w1 from hb1); have HR1 := Lib.hid (HR0.out.grow hb1); have HT := Lib.hid (Box.fresh w1 Lk.zero.cs 85); clear hb1 HR0) | (with_reducible refine wpList_stopStore (ty := 85) rfl ?_; unfold Stop; refine wpList_storeBox row85 hzl hzl (lk_one _) HT.out rfl rfl rfl rfl ?_; have HT2 := Lib.hid (show Box ((w1.alloc (Obj.cells Lk.zero.cs.toArray 85)).setRow w1.heap.size Lk.zero.cs.toArray) w1.heap.size Lk.zero.cs 85 from HT.out.row (vs := Lk.zero.cs)); have HG2 := Lib.hid (show Gr w1 ((w1.alloc (Obj.cells Lk.zero.cs.toArray 85)).setRow w1.heap.size Lk.zero.cs.toArray) from Gr.row_new w1 _ _ _); generalize (w1.alloc (Obj.cells Lk.zero.cs.toArray 85)).setRow w1.heap.size Lk.zero.cs.toArray = w2 at *; have HR2 := Lib.hid (HR1.out.grow HG2.out); obtain ⟨r0, r1, r2, r3, r4⟩ := cells5 HR2.out; have rl := HR2.out.lt; clear HR1 HT))
  exact bodyPost_ret (v := .tuple #[.slice none 0 0, .int .i64 1]) (by simp [results, Try.f25, go_sem]) rfl ⟨⟨_, rfl, World.ownsRow_nil _ _ _ _⟩, (bgr ((Below.refl _ _).alloc (by first | (simp; done) | (simp; omega) | omega) _) (by first | (simp; done) | (simp; omega) | omega) (Gr.tr HG1.out HG2.out))⟩
set_option maxRecDepth 100000 in
set_option maxHeartbeats 2000000 in
theorem surely_zero (r : Rr) (w : World) (hl : MksAt r.L r.lp w) (hr : MksAt r.R r.rp w) (hok : r.ok = true) (hz : r.lkd.all0 = 0) :
    Calls Try.prog 25 #[r.val] w (InPost w [] 4) := by
  have hzl := Lk.zero.cs_len
  have HR0 := Lib.hid (Box.fresh w r.cs 26)
  have HLK := Lib.hid (fun W (hg : Gr w W) => asks_any r W (hl.grow hg) (hr.grow hg))
  unfold Rr.cs at HR0
  unfold Rr.val at *
  have e0 : r.asked true = (Lk.zero, 4) := by unfold Rr.asked; rw [hok]; simp [hz]
  rw [e0] at HLK
  clear hl hr e0
  dsimp only at HLK
  go_enter Try.func25, Try.ntmps25
  go_wp2_with (first | (with_reducible refine wpList_stopAlloc (ty := 85) rfl ?_; unfold Stop; refine wpList_alloc85 rfl rfl ?_) | (go_at_call 54; refine (HLK.out _ (Gr.alloc _ _)).mono ?_; rintro e w1 ⟨rfl, hb1⟩; have HG1 := Lib.hid (show Gr _ w1 from hb1); have HR1 := Lib.hid (HR0.out.grow hb1); have HT := Lib.hid (Box.fresh w1 Lk.zero.cs 85); clear hb1 HR0) | (with_reducible refine wpList_stopStore (ty := 85) rfl ?_; unfold Stop; refine wpList_storeBox row85 hzl hzl (lk_one _) HT.out rfl rfl rfl rfl ?_; have HT2 := Lib.hid (show Box ((w1.alloc (Obj.cells Lk.zero.cs.toArray 85)).setRow w1.heap.size Lk.zero.cs.toArray) w1.heap.size Lk.zero.cs 85 from HT.out.row (vs := Lk.zero.cs)); have HG2 := Lib.hid (show Gr w1 ((w1.alloc (Obj.cells Lk.zero.cs.toArray 85)).setRow w1.heap.size Lk.zero.cs.toArray) from Gr.row_new w1 _ _ _); generalize (w1.alloc (Obj.cells Lk.zero.cs.toArray 85)).setRow w1.heap.size Lk.zero.cs.toArray = w2 at *; have HR2 := Lib.hid (HR1.out.grow HG2.out); obtain ⟨r0, r1, r2, r3, r4⟩ := cells5 HR2.out; have rl := HR2.out.lt; clear HR1 HT))
  exact bodyPost_ret (v := .tuple #[.slice none 0 0, .int .i64 4]) (by simp [results, Try.f25, go_sem]) rfl ⟨⟨_, rfl, World.ownsRow_nil _ _ _ _⟩, (bgr ((Below.refl _ _).alloc (by first | (simp; done) | (simp; omega) | omega) _) (by first | (simp; done) | (simp; omega) | omega) (Gr.tr HG1.out HG2.out))⟩
set_option maxRecDepth 100000 in
set_option maxHeartbeats 2000000 in
theorem surely_yes (r : Rr) (w : World) (hl : MksAt r.L r.lp w) (hr : MksAt r.R r.rp w) (hok : r.ok = true) (hz : r.lkd.all0 ≠ 0) :
    Calls Try.prog 25 #[r.val] w (InPost w ((List.range r.L.length).map (fun j => r.lkd.surTo j r.lkd.nR)) 0) := by
  have hzl := Lk.zero.cs_len
  have HR0 := Lib.hid (Box.fresh w r.cs 26)
  have HLK := Lib.hid (fun W (hg : Gr w W) => asks_any r W (hl.grow hg) (hr.grow hg))
  unfold Rr.cs at HR0
  unfold Rr.val at *
  have e0 : r.asked true = (r.lkd, 0) := by unfold Rr.asked; rw [hok]; simp [hz]
  rw [e0] at HLK
  clear hl hr e0
  dsimp only at HLK
  have hkl := r.lkd.cs_len
  have HOK := Lib.hid (Rr.lkd_ok hok)
  have hL10 : r.L.length ≤ 10 := HOK.out.nL
  obtain ⟨i0, ii0, iz0, iz1, iz2⟩ := infoP info3r
  have II0 := Lib.hid ii0
  have IZ0 := Lib.hid iz0
  have IZ1 := Lib.hid iz1
  have IZ2 := Lib.hid iz2
  have hby : i0.bytes * r.L.length ≤ 281474976710656 := by rw [iz2]; omega
  have hb63 : r.L.length ≤ 9223372036854775807 := by omega
  clear ii0 iz0 iz1 iz2
  clear hz
  have HP := Lib.hid (fun i W (h : i < r.L.length) => surePartner_any r.lkd i W HOK.out h)
  obtain ⟨F, hF⟩ : ∃ F : Nat → Int, F = (fun j => r.lkd.surTo j r.lkd.nR) := ⟨_, rfl⟩
  have HF := Lib.hid hF
  clear hF
  go_enter Try.func25, Try.ntmps25
  go_wp2_with (first | (with_reducible refine wpList_stopAlloc (ty := 85) rfl ?_; unfold Stop; refine wpList_alloc85 rfl rfl ?_) | (go_at_call 54; refine (HLK.out _ (Gr.alloc _ _)).mono ?_; rintro e w1 ⟨rfl, hb1⟩; have HG1 := Lib.hid (show Gr _ w1 from hb1); have HR1 := Lib.hid (HR0.out.grow hb1); have HT := Lib.hid (Box.fresh w1 Lk.zero.cs 85); clear hb1 HR0) | (with_reducible refine wpList_stopStore (ty := 85) rfl ?_; unfold Stop; refine wpList_storeBox row85 hkl hzl (lk_one _) HT.out rfl rfl rfl rfl ?_; have HT2 := Lib.hid (show Box ((w1.alloc (Obj.cells Lk.zero.cs.toArray 85)).setRow w1.heap.size r.lkd.cs.toArray) w1.heap.size r.lkd.cs 85 from HT.out.row (vs := r.lkd.cs)); have HG2 := Lib.hid (show Gr w1 ((w1.alloc (Obj.cells Lk.zero.cs.toArray 85)).setRow w1.heap.size r.lkd.cs.toArray) from Gr.row_new w1 _ _ _); generalize (w1.alloc (Obj.cells Lk.zero.cs.toArray 85)).setRow w1.heap.size r.lkd.cs.toArray = w2 at *; have HR2 := Lib.hid (HR1.out.grow HG2.out); obtain ⟨r0, r1, r2, r3, r4⟩ := cells5 HR2.out; have rl := HR2.out.lt; have t0 : w2.cell? ⟨w1.heap.size, 0, none⟩ = some (.slice r.lp r.L.length r.lc) := HT2.out.cell r.q0; have tl := HT2.out.lt; clear HR1 HT) | (at_make; refine wpList_make_row _ rfl _ _ 39 rfl 3 i0 (.int .i64 0) Try.underlying39 II0.out IZ0.out IZ1.out rfl .i64 .i64 r.L.length rfl rfl hby hb63 ?_))
  have hs1 : w.heap.size + 1 ≤ w1.heap.size := by have := HG1.out.size; simpa using this
  have hs2 : w1.heap.size < w2.heap.size := HT2.out.lt
  rw [vls_zero F]
  have HV := Lib.hid (Box.fresh w2 (vls F 0 r.L.length) 3)
  have HX := Lib.hid (HT2.out.grow (Gr.alloc w2 (Obj.cells (vls F 0 r.L.length).toArray 3)))
  have HBL := Lib.hid (show Below w.heap.size w (w2.alloc (Obj.cells (vls F 0 r.L.length).toArray 3)) from bgr ((Below.refl _ _).alloc (by first | (simp; done) | (simp; omega) | omega) _) (by first | (simp; done) | (simp; omega) | omega) ((Gr.tr HG1.out HG2.out).tr (Gr.alloc w2 (Obj.cells (vls F 0 r.L.length).toArray 3))))
  clear r0 r1 r2 r3 r4 rl HT2 HLK
  generalize hg2 : w2.heap.size = g at *
  generalize w2.alloc (Obj.cells (vls F 0 r.L.length).toArray 3) = w3 at *
  go_loopw [23] (fun t wr => ∃ i : Nat, i ≤ r.L.length ∧ t = .int .i64 i ∧ Hid (Box wr g (vls F i r.L.length) 3) ∧ Hid (Box wr w1.heap.size r.lkd.cs 85) ∧ Hid (Below w.heap.size w wr)) (fun t _ => (20 - intOf t).toNat)
  case atStart => exact ⟨0, Nat.zero_le _, rfl, HV, HX, HBL⟩
  case round =>
    clear HV HX HBL
    obtain ⟨i, hi, rfl, HV, HX, HBL⟩ := hrel
    by_cases hlt : i < r.L.length
    · have h1 : (i : Int) < r.L.length := by omega
      have HQ := Lib.hid (fun W => HP.out i W hlt)
      have hFi : F i = (fun j => r.lkd.surTo j r.lkd.nR) i := by rw [HF.out]
      dsimp only at hFi
      have HFI := Lib.hid hFi
      rw [← hFi] at HQ
      clear hFi
      go_wp2_with (first | (with_reducible refine wpList_stopLoad (ty := 85) rfl ?_; unfold Stop; refine wpList_loadBox row85 (r.lkd.cs_len) (HX.out) rfl rfl rfl ?_) | (go_at_call 61; refine (HQ.out _).mono ?_; rintro e w4 ⟨rfl, hb4⟩; have HG4 := Lib.hid (show Gr _ w4 from hb4); have HV4 := Lib.hid (HV.out.grow hb4); have f4 := HV4.out.free (i := i); have z4 := HV4.out.cell (vls_at F hlt); have l4 := HV4.out.lt; clear hb4))
      have ho := Only.set w4 (b := g) i (.int .i64 (F i))
      have hv := HV4.out.put i (.int .i64 (F i))
      rw [vls_set F hlt] at hv
      exact ⟨⟨i + 1, by omega, by go_num, Lib.hid hv, Lib.hid (ho.box (HX.out.grow HG4.out) (by omega)), Lib.hid ((bgr HBL.out HBL.out.size HG4.out).setCell (by simp; omega) _)⟩, by simp [intOf]; omega⟩
    · have hin : i = r.L.length := by omega
      subst hin
      go_wp2_with fail
      have hv := HV.out
      rw [vls_full, HF.out] at hv
      have := Box.owns hv (show w.heap.size ≤ g by omega) (by simp; omega)
      refine bodyPost_ret (v := .tuple #[.slice (some ⟨g, 0, none⟩) r.L.length r.L.length, .int .i64 0]) (by simp [results, Try.f25, go_sem]) rfl ⟨⟨.slice (some ⟨g, 0, none⟩) r.L.length r.L.length, rfl, ?_⟩, HBL.out⟩
      simp only [List.length_map, List.length_range] at this ⊢
      exact this
/-- What Sure tells. -/
def Rr.surely (r : Rr) : List Int × Int := if r.ok then (if r.lkd.all0 = 0 then ([], 4) else ((List.range r.L.length).map (fun j => r.lkd.surTo j r.lkd.nR), 0)) else ([], 1)
theorem Sure_any (r : Rr) (w : World) (hl : MksAt r.L r.lp w) (hr : MksAt r.R r.rp w) :
    Calls Try.prog 25 #[r.val] w (InPost w r.surely.1 r.surely.2) := by
  unfold Rr.surely
  cases h : r.ok with
  | false => exact surely_no r w hl hr h
  | true =>
    by_cases hz : r.lkd.all0 = 0
    · simp only [if_pos hz, if_true]
      exact surely_zero r w hl hr h hz
    · simp only [if_neg hz, if_true]
      exact surely_yes r w hl hr h hz

end Go.Proofs.Ytjlaoiimbhlafaa
