import Derived.Test.YtcngaohfemdfjaaGreatE27
set_option linter.unusedVariables false
set_option linter.unusedSimpArgs false
set_option maxRecDepth 100000
set_option maxHeartbeats 60000000
namespace Go.Proofs.YtcngaohfemdfjaaGreat
open Go.RowKit
theorem Hurts_no (k : Cd) (u : Cu) (w : World) (hT : TsA k.p.l (.slice k.sp k.p.l.length k.cap) w) {x : Int} (hx : k.err [u] = x) (h : x ≠ 0) :
    Calls Tryz.prog 16 #[.agg k.cs.toArray, u.val] w fun e w' => e = .returned (.tuple #[.int .i64 0, .int .i64 0, .int .i64 x]) ∧ Below w.heap.size w w' := by
  have h0 := h
  have HL := Lib.hid (fun cb W (hb : Below w.heap.size w W) hg => look1_no k cb u W (hT.below rfl hb) hg hx h)
  clear hT hx h
  have hl : k.cs.length = 17 := rfl
  have HB := Lib.hid (show Box ((w.alloc (Obj.cells k.cs.toArray 28)).alloc (Obj.cells #[.int .i64 u.a, .int .i64 u.b, .int .i64 u.c, .int .i64 u.d] 30)) w.heap.size k.cs 28 from (Box.fresh w k.cs 28).grow (Gr.alloc _ _))
  have HU := Lib.hid (Box.fresh (w.alloc (Obj.cells k.cs.toArray 28)) [.int .i64 u.a, .int .i64 u.b, .int .i64 u.c, .int .i64 u.d] 30)
  unfold Cu.val
  go_enter Tryz.func16, Tryz.ntmps16
  go_wp2_with (first | (with_reducible refine wsl (ty := 28) rfl ?_; unfold Stop; refine wlb row28 rfl (HB.out) rfl rfl rfl ?_))
  refine (HL.out _ _ (((Gr.alloc _ _).tr (Gr.alloc _ _)).tr (Gr.alloc _ _)) (by simpa using Box.fresh ((w.alloc (Obj.cells k.cs.toArray 28)).alloc (Obj.cells #[.int .i64 u.a, .int .i64 u.b, .int .i64 u.c, .int .i64 u.d] 30)) [.int .i64 u.a, .int .i64 u.b, .int .i64 u.c, .int .i64 u.d] 30)).mono ?_
  rintro e w1 ⟨rfl, hb1⟩
  have hu1 : Box w1 (w.heap.size + 1) [.int .i64 u.a, .int .i64 u.b, .int .i64 u.c, .int .i64 u.d] 30 := by simpa using (HU.out.grow (Gr.alloc _ _)).grow hb1
  have hg1 : Gr w w1 := (((Gr.alloc _ _).tr (Gr.alloc _ _)).tr (Gr.alloc _ _)).tr hb1
  clear hb1
  obtain ⟨W2, hst, hB2, hg2⟩ := store_look w1 Cd.zero rfl zero_one
  have hu2 := hu1.grow hg2
  have u0 := hu2.cell (i := 0) rfl
  have u1 := hu2.cell (i := 1) rfl
  have u2 := hu2.cell (i := 2) rfl
  have u3 := hu2.cell (i := 3) rfl
  have ul := hu2.lt
  have HG := Lib.hid (hg1.tr hg2)
  clear hg1 hg2 hB2 hu1 hu2
  go_wp2
  exact bodyPost_ret (v := .tuple #[.int .i64 0, .int .i64 0, .int .i64 x]) (by simp [results, Tryz.results16, go_sem]) rfl ⟨rfl, HG.out⟩
theorem Hurts_yes (k : Cd) (u : Cu) (w : World) (hT : TsA k.p.l (.slice k.sp k.p.l.length k.cap) w) (h : k.err [u] = 0) {a b : Int} (hf : (⟨k, 0, u⟩ : Tm).first k.p.sees = (a, b)) (hne : ¬ (a = 0 ∧ b = 0)) :
    Calls Tryz.prog 16 #[.agg k.cs.toArray, u.val] w fun e w' => e = .returned (.tuple #[.int .i64 a, .int .i64 b, .int .i64 11]) ∧ Below w.heap.size w w' := by
  have HF := Lib.hid hf
  have HNE := Lib.hid hne
  clear hf hne
  have h0 := h
  have HL := Lib.hid (fun cb W (hb : Below w.heap.size w W) hg => look1_ok k cb u W (hT.below rfl hb) hg h)
  have HOK := Lib.hid (fun mb => tm_ok (k := k) (mb := mb) (u := u) (Cd.err_zero h).2.1 ((Cd.err_zero h).2.2.1 u (by simp)))
  have HV := Lib.hid (Pr.sees_ok (Cd.err_zero h).1)
  have HLE := Lib.hid (Pr.len_ok (Cd.err_zero h).1)
  clear hT h h0
  have hl : k.cs.length = 17 := rfl
  have HB := Lib.hid (show Box ((w.alloc (Obj.cells k.cs.toArray 28)).alloc (Obj.cells #[.int .i64 u.a, .int .i64 u.b, .int .i64 u.c, .int .i64 u.d] 30)) w.heap.size k.cs 28 from (Box.fresh w k.cs 28).grow (Gr.alloc _ _))
  have HU := Lib.hid (Box.fresh (w.alloc (Obj.cells k.cs.toArray 28)) [.int .i64 u.a, .int .i64 u.b, .int .i64 u.c, .int .i64 u.d] 30)
  unfold Cu.val
  go_enter Tryz.func16, Tryz.ntmps16
  go_wp2_with (first | (with_reducible refine wsl (ty := 28) rfl ?_; unfold Stop; refine wlb row28 rfl (HB.out) rfl rfl rfl ?_))
  refine (HL.out _ _ (((Gr.alloc _ _).tr (Gr.alloc _ _)).tr (Gr.alloc _ _)) (by simpa using Box.fresh ((w.alloc (Obj.cells k.cs.toArray 28)).alloc (Obj.cells #[.int .i64 u.a, .int .i64 u.b, .int .i64 u.c, .int .i64 u.d] 30)) [.int .i64 u.a, .int .i64 u.b, .int .i64 u.c, .int .i64 u.d] 30)).mono ?_
  rintro e w1 ⟨mb, rfl, hmb, hM, hb1⟩
  have hu1 : Box w1 (w.heap.size + 1) [.int .i64 u.a, .int .i64 u.b, .int .i64 u.c, .int .i64 u.d] 30 := by simpa using (HU.out.grow (Gr.alloc _ _)).grow hb1
  have hg1 : Gr w w1 := (((Gr.alloc _ _).tr (Gr.alloc _ _)).tr (Gr.alloc _ _)).tr hb1
  clear hb1
  obtain ⟨W2, hst, hB2, hg2⟩ := store_look w1 (k.lk mb) rfl (lk_one k mb)
  have h18 : (k.lk mb).length = 18 := rfl
  have HM := Lib.hid (hM.grow hg2)
  have HLK := Lib.hid hB2
  clear hM
  have hu2 := hu1.grow hg2
  have u0 := hu2.cell (i := 0) rfl
  have u1 := hu2.cell (i := 1) rfl
  have u2 := hu2.cell (i := 2) rfl
  have u3 := hu2.cell (i := 3) rfl
  have ul := hu2.lt
  have HG := Lib.hid (hg1.tr hg2)
  clear hg1 hg2 hB2 hu1 hu2
  go_wp2_with (first | (with_reducible refine wsl (ty := 71) rfl ?_; unfold Stop; refine wlb row71 rfl (HLK.out) rfl rfl rfl ?_))
  refine (with_any' ⟨k, mb, u⟩ _).mono ?_
  rintro e3 w3 ⟨rfl, hb3⟩
  have HG3 := Lib.hid (HG.out.tr hb3)
  have HM3 := Lib.hid (HM.out.grow hb3)
  clear hb3 u0 u1 u2 u3 ul
  go_wp2_with fail
  refine (firstHurt_ok ⟨k, mb, u⟩ (HOK.out mb) HV.out HLE.out _ HM3.out).mono ?_
  rintro e4 w4 ⟨rfl, hb4⟩
  have HG4 := Lib.hid (HG3.out.tr hb4)
  clear hb4
  rw [first_mb k mb u, HF.out]
  dsimp only
  have HB8 := Lib.hid (Box.fresh w4 [.int .i64 a, .int .i64 b] 81)
  go_wp2_with fail
  refine region2 3 ?_ ?_ ?_
  · kernel_rfl
  · kernel_rfl
  simp only [List.take_succ_cons, List.take_zero, List.drop_succ_cons, List.drop_zero]
  apply ceq (D := [(8, none)]) rfl (by kernel_rfl)
  · intro ρ W ⟨p1,p2,p3⟩ hG hF K hK; (try simp [FD] at hF); have ⟨hc, hf, hz⟩ := bdr hG; have b0 := (HB8.out.grow (Gr.tr (Gr.drew _) hG)).cell (i := 0) rfl; have b1 := (HB8.out.grow (Gr.tr (Gr.drew _) hG)).cell (i := 1) rfl; go_simp; exact hK _ gv
  apply ceq (D := []) rfl (by kernel_rfl)
  · intro ρ W ⟨p1,p2,p3⟩ hG hF K hK; (try simp [FD] at hF); have ⟨hc, hf, hz⟩ := bdr hG; go_simp; exact hK _ (gc (unhurt_any _))
  apply ceq (D := [(23, some 1), (24, some 0)]) rfl (by kernel_rfl)
  · intro ρ W ⟨p1,p2,p3⟩ hG hF K hK; (try simp [FD] at hF); have ⟨hc, hf, hz⟩ := bdr hG; have hq := neq81; have hq2 := neg81; go_simp; exact hK _ gv
  refine cdn ?_
  intro vs W hG hV
  obtain ⟨e2, -⟩ := hV
  simp only [Nat.reduceSub] at e2
  simp only [lay, Act.put, List.getElem?_toArray, List.getElem?_cons_succ, List.getElem?_cons_zero, Option.bind_some, List.setIfInBounds_toArray, List.set_cons_succ, List.set_cons_zero]
  generalize vs 0 = v0, vs 1 = v1
  generalize vs 2 = v2 at *
  subst e2
  obtain ⟨hc, hf, hz⟩ := bcell hG
  have hcd : (!a == 0 || !b == 0) = true := by have := HNE.out; simp; omega
  rw [hcd]
  have hB := HB8.out.grow hG
  have b0 := hB.cell (i := 0) rfl
  have b1 := hB.cell (i := 1) rfl
  have bl := hB.lt
  have HW := Lib.hid hG
  clear hc hf hz hG hcd hB
  go_wp2_with fail
  go_region
  go_wp2
  exact bodyPost_ret (v := .tuple #[.int .i64 a, .int .i64 b, .int .i64 11]) (by simp [results, Tryz.results16, go_sem]) rfl ⟨rfl, ((HG4.out.tr (Gr.alloc _ _)).tr HW.out).tr (Gr.drew _)⟩
theorem Hurts_not (k : Cd) (u : Cu) (w : World) (hT : TsA k.p.l (.slice k.sp k.p.l.length k.cap) w) (h : k.err [u] = 0) {a b : Int} (hf : (⟨k, 0, u⟩ : Tm).first k.p.sees = (a, b)) (hne : a = 0 ∧ b = 0) :
    Calls Tryz.prog 16 #[.agg k.cs.toArray, u.val] w fun e w' => e = .returned (.tuple #[.int .i64 0, .int .i64 0, .int .i64 0]) ∧ Below w.heap.size w w' := by
  have HF := Lib.hid hf
  have HNE := Lib.hid hne
  clear hf hne
  have h0 := h
  have HL := Lib.hid (fun cb W (hb : Below w.heap.size w W) hg => look1_ok k cb u W (hT.below rfl hb) hg h)
  have HOK := Lib.hid (fun mb => tm_ok (k := k) (mb := mb) (u := u) (Cd.err_zero h).2.1 ((Cd.err_zero h).2.2.1 u (by simp)))
  have HV := Lib.hid (Pr.sees_ok (Cd.err_zero h).1)
  have HLE := Lib.hid (Pr.len_ok (Cd.err_zero h).1)
  clear hT h h0
  have hl : k.cs.length = 17 := rfl
  have HB := Lib.hid (show Box ((w.alloc (Obj.cells k.cs.toArray 28)).alloc (Obj.cells #[.int .i64 u.a, .int .i64 u.b, .int .i64 u.c, .int .i64 u.d] 30)) w.heap.size k.cs 28 from (Box.fresh w k.cs 28).grow (Gr.alloc _ _))
  have HU := Lib.hid (Box.fresh (w.alloc (Obj.cells k.cs.toArray 28)) [.int .i64 u.a, .int .i64 u.b, .int .i64 u.c, .int .i64 u.d] 30)
  unfold Cu.val
  go_enter Tryz.func16, Tryz.ntmps16
  go_wp2_with (first | (with_reducible refine wsl (ty := 28) rfl ?_; unfold Stop; refine wlb row28 rfl (HB.out) rfl rfl rfl ?_))
  refine (HL.out _ _ (((Gr.alloc _ _).tr (Gr.alloc _ _)).tr (Gr.alloc _ _)) (by simpa using Box.fresh ((w.alloc (Obj.cells k.cs.toArray 28)).alloc (Obj.cells #[.int .i64 u.a, .int .i64 u.b, .int .i64 u.c, .int .i64 u.d] 30)) [.int .i64 u.a, .int .i64 u.b, .int .i64 u.c, .int .i64 u.d] 30)).mono ?_
  rintro e w1 ⟨mb, rfl, hmb, hM, hb1⟩
  have hu1 : Box w1 (w.heap.size + 1) [.int .i64 u.a, .int .i64 u.b, .int .i64 u.c, .int .i64 u.d] 30 := by simpa using (HU.out.grow (Gr.alloc _ _)).grow hb1
  have hg1 : Gr w w1 := (((Gr.alloc _ _).tr (Gr.alloc _ _)).tr (Gr.alloc _ _)).tr hb1
  clear hb1
  obtain ⟨W2, hst, hB2, hg2⟩ := store_look w1 (k.lk mb) rfl (lk_one k mb)
  have h18 : (k.lk mb).length = 18 := rfl
  have HM := Lib.hid (hM.grow hg2)
  have HLK := Lib.hid hB2
  clear hM
  have hu2 := hu1.grow hg2
  have u0 := hu2.cell (i := 0) rfl
  have u1 := hu2.cell (i := 1) rfl
  have u2 := hu2.cell (i := 2) rfl
  have u3 := hu2.cell (i := 3) rfl
  have ul := hu2.lt
  have HG := Lib.hid (hg1.tr hg2)
  clear hg1 hg2 hB2 hu1 hu2
  go_wp2_with (first | (with_reducible refine wsl (ty := 71) rfl ?_; unfold Stop; refine wlb row71 rfl (HLK.out) rfl rfl rfl ?_))
  refine (with_any' ⟨k, mb, u⟩ _).mono ?_
  rintro e3 w3 ⟨rfl, hb3⟩
  have HG3 := Lib.hid (HG.out.tr hb3)
  have HM3 := Lib.hid (HM.out.grow hb3)
  clear hb3 u0 u1 u2 u3 ul
  go_wp2_with fail
  refine (firstHurt_ok ⟨k, mb, u⟩ (HOK.out mb) HV.out HLE.out _ HM3.out).mono ?_
  rintro e4 w4 ⟨rfl, hb4⟩
  have HG4 := Lib.hid (HG3.out.tr hb4)
  clear hb4
  rw [first_mb k mb u, HF.out]
  dsimp only
  have HB8 := Lib.hid (Box.fresh w4 [.int .i64 a, .int .i64 b] 81)
  go_wp2_with fail
  refine region2 3 ?_ ?_ ?_
  · kernel_rfl
  · kernel_rfl
  simp only [List.take_succ_cons, List.take_zero, List.drop_succ_cons, List.drop_zero]
  apply ceq (D := [(8, none)]) rfl (by kernel_rfl)
  · intro ρ W ⟨p1,p2,p3⟩ hG hF K hK; (try simp [FD] at hF); have ⟨hc, hf, hz⟩ := bdr hG; have b0 := (HB8.out.grow (Gr.tr (Gr.drew _) hG)).cell (i := 0) rfl; have b1 := (HB8.out.grow (Gr.tr (Gr.drew _) hG)).cell (i := 1) rfl; go_simp; exact hK _ gv
  apply ceq (D := []) rfl (by kernel_rfl)
  · intro ρ W ⟨p1,p2,p3⟩ hG hF K hK; (try simp [FD] at hF); have ⟨hc, hf, hz⟩ := bdr hG; go_simp; exact hK _ (gc (unhurt_any _))
  apply ceq (D := [(23, some 1), (24, some 0)]) rfl (by kernel_rfl)
  · intro ρ W ⟨p1,p2,p3⟩ hG hF K hK; (try simp [FD] at hF); have ⟨hc, hf, hz⟩ := bdr hG; have hq := neq81; have hq2 := neg81; go_simp; exact hK _ gv
  refine cdn ?_
  intro vs W hG hV
  obtain ⟨e2, -⟩ := hV
  simp only [Nat.reduceSub] at e2
  simp only [lay, Act.put, List.getElem?_toArray, List.getElem?_cons_succ, List.getElem?_cons_zero, Option.bind_some, List.setIfInBounds_toArray, List.set_cons_succ, List.set_cons_zero]
  generalize vs 0 = v0, vs 1 = v1
  generalize vs 2 = v2 at *
  subst e2
  obtain ⟨hc, hf, hz⟩ := bcell hG
  have hcd : (!a == 0 || !b == 0) = false := by have := HNE.out; simp [this.1, this.2]
  rw [hcd]
  have HW := Lib.hid hG
  clear hc hf hz hG hcd
  go_wp2
  exact bodyPost_ret (v := .tuple #[.int .i64 0, .int .i64 0, .int .i64 0]) (by simp [results, Tryz.results16, go_sem]) rfl ⟨rfl, (HG4.out.tr (Gr.alloc _ _)).tr HW.out⟩
end Go.Proofs.YtcngaohfemdfjaaGreat
