import Derived.Test.YtjlaoiimbhlafaaC35
import Derived.Test.YtjlaoiimbhlafaaC13
import Derived.Test.YtjlaoiimbhlafaaC14
set_option linter.unusedVariables false
set_option linter.unusedSimpArgs false
namespace Go.Proofs.Ytjlaoiimbhlafaa
open Go.RowKit Go.Shelf

open MW
attribute [local go_sem] Oper.semAt_some run_store_func
def Rr.hdL (r : Rr) : Nat := gat (fun i => decide (0 < r.lkd.spl i 10)) r.L.length
def Rr.hdR (r : Rr) : Nat := gat (fun c => decide (0 < r.lkd.wy (woM r.lkd.all c) 0 0 r.lkd.h)) r.R.length
set_option maxRecDepth 100000 in
set_option maxHeartbeats 2000000 in
theorem hides_no (r : Rr) (w : World) (hl : MksAt r.L r.lp w) (hr : MksAt r.R r.rp w) (hok : r.ok = false) :
    Calls Try.prog 27 #[r.val] w fun e w' => e = .returned (.tuple #[.int .i64 0, .int .i64 0, .int .i64 1]) ∧ Below w.heap.size w w' := by
  have hzl := Lk.zero.cs_len
  have HR0 := Lib.hid (Box.fresh w r.cs 26)
  have HLK := Lib.hid (fun W (hg : Gr w W) => asks_any r W (hl.grow hg) (hr.grow hg))
  unfold Rr.cs at HR0
  unfold Rr.val at *
  have e0 : r.asked true = (Lk.zero, 1) := by unfold Rr.asked; rw [hok]; rfl
  rw [e0] at HLK
  clear hl hr e0
  dsimp only at HLK
  go_enter Try.func27, Try.ntmps27
  go_wp2_with (first | (with_reducible refine wpList_stopAlloc (ty := 85) rfl ?_; unfold Stop; refine wpList_alloc85 rfl rfl ?_) | (go_at_call 54; refine (HLK.out _ (Gr.alloc _ _)).mono ?_; rintro e w1 ⟨rfl, hb1⟩; have HG1 := Lib.hid (show Gr _ w1 from hb1); have HR1 := Lib.hid (HR0.out.grow hb1); have HT := Lib.hid (Box.fresh w1 Lk.zero.cs 85); clear hb1 HR0) | (with_reducible refine wpList_stopStore (ty := 85) rfl ?_; unfold Stop; refine wpList_storeBox row85 hzl hzl (lk_one _) HT.out rfl rfl rfl rfl ?_; have HT2 := Lib.hid (show Box ((w1.alloc (Obj.cells Lk.zero.cs.toArray 85)).setRow w1.heap.size Lk.zero.cs.toArray) w1.heap.size Lk.zero.cs 85 from HT.out.row (vs := Lk.zero.cs)); have HG2 := Lib.hid (show Gr w1 ((w1.alloc (Obj.cells Lk.zero.cs.toArray 85)).setRow w1.heap.size Lk.zero.cs.toArray) from Gr.row_new w1 _ _ _); generalize (w1.alloc (Obj.cells Lk.zero.cs.toArray 85)).setRow w1.heap.size Lk.zero.cs.toArray = w2 at *; have HR2 := Lib.hid (HR1.out.grow HG2.out); obtain ⟨r0, r1, r2, r3, r4⟩ := cells5 HR2.out; have rl := HR2.out.lt; clear HR1 HT))
  exact bodyPost_ret (v := .tuple #[.int .i64 0, .int .i64 0, .int .i64 1]) (by simp [results, Try.f27, go_sem]) rfl ⟨rfl, (bgr ((Below.refl _ _).alloc (by first | (simp; done) | (simp; omega) | omega) _) (by first | (simp; done) | (simp; omega) | omega) (Gr.tr HG1.out HG2.out))⟩
set_option maxRecDepth 100000 in
set_option maxHeartbeats 2000000 in
theorem hides_zero (r : Rr) (w : World) (hl : MksAt r.L r.lp w) (hr : MksAt r.R r.rp w) (hok : r.ok = true) (hz : r.lkd.all0 = 0) :
    Calls Try.prog 27 #[r.val] w fun e w' => e = .returned (.tuple #[.int .i64 0, .int .i64 0, .int .i64 4]) ∧ Below w.heap.size w w' := by
  have hzl := Lk.zero.cs_len
  have HR0 := Lib.hid (Box.fresh w r.cs 26)
  have HLK := Lib.hid (fun W (hg : Gr w W) => asks_any r W (hl.grow hg) (hr.grow hg))
  unfold Rr.cs at HR0
  unfold Rr.val at *
  have e0 : r.asked true = (Lk.zero, 4) := by unfold Rr.asked; rw [hok]; simp [hz]
  rw [e0] at HLK
  clear hl hr e0
  dsimp only at HLK
  go_enter Try.func27, Try.ntmps27
  go_wp2_with (first | (with_reducible refine wpList_stopAlloc (ty := 85) rfl ?_; unfold Stop; refine wpList_alloc85 rfl rfl ?_) | (go_at_call 54; refine (HLK.out _ (Gr.alloc _ _)).mono ?_; rintro e w1 ⟨rfl, hb1⟩; have HG1 := Lib.hid (show Gr _ w1 from hb1); have HR1 := Lib.hid (HR0.out.grow hb1); have HT := Lib.hid (Box.fresh w1 Lk.zero.cs 85); clear hb1 HR0) | (with_reducible refine wpList_stopStore (ty := 85) rfl ?_; unfold Stop; refine wpList_storeBox row85 hzl hzl (lk_one _) HT.out rfl rfl rfl rfl ?_; have HT2 := Lib.hid (show Box ((w1.alloc (Obj.cells Lk.zero.cs.toArray 85)).setRow w1.heap.size Lk.zero.cs.toArray) w1.heap.size Lk.zero.cs 85 from HT.out.row (vs := Lk.zero.cs)); have HG2 := Lib.hid (show Gr w1 ((w1.alloc (Obj.cells Lk.zero.cs.toArray 85)).setRow w1.heap.size Lk.zero.cs.toArray) from Gr.row_new w1 _ _ _); generalize (w1.alloc (Obj.cells Lk.zero.cs.toArray 85)).setRow w1.heap.size Lk.zero.cs.toArray = w2 at *; have HR2 := Lib.hid (HR1.out.grow HG2.out); obtain ⟨r0, r1, r2, r3, r4⟩ := cells5 HR2.out; have rl := HR2.out.lt; clear HR1 HT))
  exact bodyPost_ret (v := .tuple #[.int .i64 0, .int .i64 0, .int .i64 4]) (by simp [results, Try.f27, go_sem]) rfl ⟨rfl, (bgr ((Below.refl _ _).alloc (by first | (simp; done) | (simp; omega) | omega) _) (by first | (simp; done) | (simp; omega) | omega) (Gr.tr HG1.out HG2.out))⟩
set_option maxRecDepth 100000 in
set_option maxHeartbeats 2000000 in
theorem hides_yes (r : Rr) (w : World) (hl : MksAt r.L r.lp w) (hr : MksAt r.R r.rp w) (hok : r.ok = true) (hz : r.lkd.all0 ≠ 0) :
    Calls Try.prog 27 #[r.val] w fun e w' => e = .returned (.tuple #[.int .i64 (r.hdL : Nat), .int .i64 (r.hdR : Nat), .int .i64 0]) ∧ Below w.heap.size w w' := by
  have hzl := Lk.zero.cs_len
  have HR0 := Lib.hid (Box.fresh w r.cs 26)
  have HLK := Lib.hid (fun W (hg : Gr w W) => asks_any r W (hl.grow hg) (hr.grow hg))
  unfold Rr.cs at HR0
  unfold Rr.val at *
  have e0 : r.asked true = (r.lkd, 0) := by unfold Rr.asked; rw [hok]; simp [hz]
  rw [e0] at HLK
  clear hl hr e0
  dsimp only at HLK
  have hkl := r.lkd.cs_len
  have HOK := Lib.hid (Rr.lkd_ok hok)
  have hL10 : r.L.length ≤ 10 := HOK.out.nL
  have hR10 : r.R.length ≤ 10 := HOK.out.nR
  have HLA := Lib.hid (fun W => gatherL_any r.lkd r.L.length (fun i => decide (0 < r.lkd.spl i 10)) [] W (by omega) (fun k hk => by cases hk) (fun W' _ k hk => hidesLeft_any r.lkd k W' HOK.out hk))
  have HRA := Lib.hid (fun W => gatherR_any r.lkd r.R.length (fun c => decide (0 < r.lkd.wy (woM r.lkd.all c) 0 0 r.lkd.h)) [] W (by omega) (fun k hk => by cases hk) (fun W' _ k hk => hidesRight_any r.lkd k W' HOK.out (by omega)))
  unfold Rr.hdL Rr.hdR
  generalize gat (fun i => decide (0 < r.lkd.spl i 10)) r.L.length = ga at *
  generalize gat (fun c => decide (0 < r.lkd.wy (woM r.lkd.all c) 0 0 r.lkd.h)) r.R.length = gb at *
  clear hz
  go_enter Try.func27, Try.ntmps27
  go_wp2_with (first | (with_reducible refine wpList_stopAlloc (ty := 85) rfl ?_; unfold Stop; refine wpList_alloc85 rfl rfl ?_) | (go_at_call 54; refine (HLK.out _ (Gr.alloc _ _)).mono ?_; rintro e w1 ⟨rfl, hb1⟩; have HG1 := Lib.hid (show Gr _ w1 from hb1); have HR1 := Lib.hid (HR0.out.grow hb1); have HT := Lib.hid (Box.fresh w1 Lk.zero.cs 85); clear hb1 HR0) | (with_reducible refine wpList_stopStore (ty := 85) rfl ?_; unfold Stop; refine wpList_storeBox row85 hkl hzl (lk_one _) HT.out rfl rfl rfl rfl ?_; have HT2 := Lib.hid (show Box ((w1.alloc (Obj.cells Lk.zero.cs.toArray 85)).setRow w1.heap.size r.lkd.cs.toArray) w1.heap.size r.lkd.cs 85 from HT.out.row (vs := r.lkd.cs)); have HG2 := Lib.hid (show Gr w1 ((w1.alloc (Obj.cells Lk.zero.cs.toArray 85)).setRow w1.heap.size r.lkd.cs.toArray) from Gr.row_new w1 _ _ _); generalize (w1.alloc (Obj.cells Lk.zero.cs.toArray 85)).setRow w1.heap.size r.lkd.cs.toArray = w2 at *; have HR2 := Lib.hid (HR1.out.grow HG2.out); obtain ⟨r0, r1, r2, r3, r4⟩ := cells5 HR2.out; have rl := HR2.out.lt; clear HR1 HT))
  clear r0 r1 r2 r3 r4 rl HLK
  have HB2 := Lib.hid (show Below w.heap.size w w2 from (bgr ((Below.refl _ _).alloc (by first | (simp; done) | (simp; omega) | omega) _) (by first | (simp; done) | (simp; omega) | omega) (Gr.tr HG1.out HG2.out)))
  refine region2 17 ?_ ?_ ?_
  · kernel_rfl
  · kernel_rfl
  simp only [List.take_succ_cons, List.take_zero, List.drop_succ_cons, List.drop_zero]
  apply chain_eq (D := [(5, none)]) rfl (by kernel_rfl)
  · intro ρ W4 ⟨p1, p2, p3⟩ hG hF K hK; (try simp [FactsD] at hF); have hD := Gr.tr (Gr.drew _) hG; go_simp; exact hK _ (gives_val)
  apply chain_eq (D := [(14, some 0)]) rfl (by kernel_rfl)
  · intro ρ W4 ⟨p1, p2, p3⟩ hG hF K hK; (try simp [FactsD] at hF); have hD := Gr.tr (Gr.drew _) hG; go_simp; exact hK _ (gives_val)
  apply chain_eq (D := [(15, some 0)]) rfl (by kernel_rfl)
  · intro ρ W4 ⟨p1, p2, p3⟩ hG hF K hK; (try simp [FactsD] at hF); have hD := Gr.tr (Gr.drew _) hG; have q0 := (HT2.out.grow hD).cell r.q0; go_simp; exact hK _ (gives_val)
  apply chain_eq (D := [(16, some 0)]) rfl (by kernel_rfl)
  · intro ρ W4 ⟨p1, p2, p3⟩ hG hF K hK; (try simp [FactsD] at hF); have hD := Gr.tr (Gr.drew _) hG; go_simp; exact hK _ (gives_val)
  apply chain_eq (D := [(5, none)]) rfl (by kernel_rfl)
  · intro ρ W4 ⟨p1, p2, p3⟩ hG hF K hK; (try simp [FactsD] at hF); have hD := Gr.tr (Gr.drew _) hG; rw [exec_loadBox row85 hkl (HT2.out.grow hD) rfl hF]; exact hK _ gives_val
  apply chain_eq (D := [(18, some 0)]) rfl (by kernel_rfl)
  · intro ρ W4 ⟨p1, p2, p3⟩ hG hF K hK; (try simp [FactsD] at hF); have hD := Gr.tr (Gr.drew _) hG; go_simp; exact hK _ (gives_val)
  apply chain_eq (D := [(17, some 2), (19, some 0)]) rfl (by kernel_rfl)
  · intro ρ W4 ⟨p1, p2, p3⟩ hG hF K hK; (try simp [FactsD] at hF); have hD := Gr.tr (Gr.drew _) hG; go_simp; exact hK _ (gives_call (HLA.out _))
  apply chain_eq (D := [(5, none)]) rfl (by kernel_rfl)
  · intro ρ W4 ⟨p1, p2, p3⟩ hG hF K hK; (try simp [FactsD] at hF); have hD := Gr.tr (Gr.drew _) hG; go_simp; exact hK _ (gives_val)
  apply chain_eq (D := [(21, some 0)]) rfl (by kernel_rfl)
  · intro ρ W4 ⟨p1, p2, p3⟩ hG hF K hK; (try simp [FactsD] at hF); have hD := Gr.tr (Gr.drew _) hG; go_simp; exact hK _ (gives_val)
  apply chain_eq (D := [(22, some 0)]) rfl (by kernel_rfl)
  · intro ρ W4 ⟨p1, p2, p3⟩ hG hF K hK; (try simp [FactsD] at hF); have hD := Gr.tr (Gr.drew _) hG; have q0 := (HT2.out.grow hD).cell r.q1; go_simp; exact hK _ (gives_val)
  apply chain_eq (D := [(23, some 0)]) rfl (by kernel_rfl)
  · intro ρ W4 ⟨p1, p2, p3⟩ hG hF K hK; (try simp [FactsD] at hF); have hD := Gr.tr (Gr.drew _) hG; go_simp; exact hK _ (gives_val)
  apply chain_eq (D := [(5, none)]) rfl (by kernel_rfl)
  · intro ρ W4 ⟨p1, p2, p3⟩ hG hF K hK; (try simp [FactsD] at hF); have hD := Gr.tr (Gr.drew _) hG; rw [exec_loadBox row85 hkl (HT2.out.grow hD) rfl hF]; exact hK _ gives_val
  apply chain_eq (D := [(25, some 0)]) rfl (by kernel_rfl)
  · intro ρ W4 ⟨p1, p2, p3⟩ hG hF K hK; (try simp [FactsD] at hF); have hD := Gr.tr (Gr.drew _) hG; go_simp; exact hK _ (gives_val)
  apply chain_eq (D := [(24, some 2), (26, some 0)]) rfl (by kernel_rfl)
  · intro ρ W4 ⟨p1, p2, p3⟩ hG hF K hK; (try simp [FactsD] at hF); have hD := Gr.tr (Gr.drew _) hG; go_simp; exact hK _ (gives_call (HRA.out _))
  apply chain_eq (D := [(20, some 7)]) rfl (by kernel_rfl)
  · intro ρ W4 ⟨p1, p2, p3⟩ hG hF K hK; (try simp [FactsD] at hF); have hD := Gr.tr (Gr.drew _) hG; go_simp; exact hK _ (gives_val)
  apply chain_eq (D := [(27, some 1)]) rfl (by kernel_rfl)
  · intro ρ W4 ⟨p1, p2, p3⟩ hG hF K hK; (try simp [FactsD] at hF); have hD := Gr.tr (Gr.drew _) hG; go_simp; exact hK _ (gives_val)
  apply chain_eq (D := []) rfl (by kernel_rfl)
  · intro ρ W4 ⟨p1, p2, p3⟩ hG hF K hK; (try simp [FactsD] at hF); have hD := Gr.tr (Gr.drew _) hG; go_simp; exact hK _ (gives_val)
  refine chain_done ?_
  intro vs W4 hG hV
  obtain ⟨e16, e15, e14, -⟩ := hV
  simp only [Nat.reduceSub] at e14 e15 e16
  simp only [lay, Act.put, List.getElem?_toArray, List.getElem?_cons_succ, List.getElem?_cons_zero, Option.bind_some, List.setIfInBounds_toArray, List.set_cons_succ, List.set_cons_zero]
  generalize vs 0 = v0
  generalize vs 1 = v1
  generalize vs 2 = v2
  generalize vs 3 = v3
  generalize vs 4 = v4
  generalize vs 5 = v5
  generalize vs 6 = v6
  generalize vs 7 = v7
  generalize vs 8 = v8
  generalize vs 9 = v9
  generalize vs 10 = v10
  generalize vs 11 = v11
  generalize vs 12 = v12
  generalize vs 13 = v13
  generalize vs 14 = v14 at *
  generalize vs 15 = v15 at *
  generalize vs 16 = v16 at *
  subst e14
  subst e15
  subst e16
  go_wp2_with fail
  exact bodyPost_ret (v := .tuple #[.int .i64 ga, .int .i64 gb, .int .i64 0]) (by simp [results, Try.f27, go_sem]) rfl ⟨rfl, bgr HB2.out HB2.out.size hG⟩
/-- What Hides tells. -/
def Rr.hides (r : Rr) : Nat × Nat × Int := if r.ok then (if r.lkd.all0 = 0 then (0, 0, 4) else (r.hdL, r.hdR, 0)) else (0, 0, 1)
theorem Hides_any (r : Rr) (w : World) (hl : MksAt r.L r.lp w) (hr : MksAt r.R r.rp w) :
    Calls Try.prog 27 #[r.val] w fun e w' => e = .returned (.tuple #[.int .i64 r.hides.1, .int .i64 r.hides.2.1, .int .i64 r.hides.2.2]) ∧ Below w.heap.size w w' := by
  unfold Rr.hides
  cases h : r.ok with
  | false => exact hides_no r w hl hr h
  | true =>
    by_cases hz : r.lkd.all0 = 0
    · simp only [if_pos hz, if_true]
      exact hides_zero r w hl hr h hz
    · simp only [if_neg hz, if_true]
      exact hides_yes r w hl hr h hz

end Go.Proofs.Ytjlaoiimbhlafaa
