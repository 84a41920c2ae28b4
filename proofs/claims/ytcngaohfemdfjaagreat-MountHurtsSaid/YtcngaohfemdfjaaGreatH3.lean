import Derived.Test.YtcngaohfemdfjaaGreatH2
set_option linter.unusedVariables false
set_option linter.unusedSimpArgs false
set_option maxRecDepth 100000
set_option maxHeartbeats 60000000
namespace Go.Proofs.YtcngaohfemdfjaaGreat
open Go.RowKit
theorem rhurts_err (k : Cd) (u : Cu) (w : World) (hT : TsA k.p.l (.slice k.sp k.p.l.length k.cap) w) (r : Int) (hr0 : (r != 0) = true) (he : Hid (k.err [u] = r)) :
    Calls Tryz.prog 17 #[.agg k.cs.toArray, .agg #[.int .i64 u.a, .int .i64 u.b, .int .i64 u.c, .int .i64 u.d]] w fun e w' => e = .returned (.tuple #[.int .i64 0, .int .i64 0, .int .i64 r]) ∧ Below w.heap.size w w' := by
  have HG0 := Lib.hid (show Gr w ((w.alloc (Obj.cells k.cs.toArray 28)).alloc (Obj.cells #[.int .i64 u.a, .int .i64 u.b, .int .i64 u.c, .int .i64 u.d] 30)) from (Gr.alloc _ _).tr (Gr.alloc _ _))
  have TH := Lib.hid (fun (W : World) (hg : Gr ((w.alloc (Obj.cells k.cs.toArray 28)).alloc (Obj.cells #[.int .i64 u.a, .int .i64 u.b, .int .i64 u.c, .int .i64 u.d] 30)) W) => TsA.lasts k.p.l _ _ _ hT (HG0.out.tr hg))
  have HB0 := Lib.hid (show Box ((w.alloc (Obj.cells k.cs.toArray 28)).alloc (Obj.cells #[.int .i64 u.a, .int .i64 u.b, .int .i64 u.c, .int .i64 u.d] 30)) w.heap.size k.cs 28 from (Box.fresh w k.cs 28).grow (Gr.alloc _ _))
  have HU0 := Lib.hid (show Box ((w.alloc (Obj.cells k.cs.toArray 28)).alloc (Obj.cells #[.int .i64 u.a, .int .i64 u.b, .int .i64 u.c, .int .i64 u.d] 30)) (w.heap.size + 1) [.int .i64 u.a, .int .i64 u.b, .int .i64 u.c, .int .i64 u.d] 30 by simpa using Box.fresh (w.alloc (Obj.cells k.cs.toArray 28)) [.int .i64 u.a, .int .i64 u.b, .int .i64 u.c, .int .i64 u.d] 30)
  have HC : Hid (∀ b, k.errb b = k.err [u] → ∀ W, TsA k.p.l (.slice k.sp k.p.l.length k.cap) W → Calls Tryz.prog 50 #[.agg k.cs.toArray, .bool b] W fun e w' => e = .returned (.int .i64 r) ∧ Below W.heap.size W w') := Lib.hid fun b hb W h => by
    have := rcheck_any k b W h
    rwa [hb, he.out] at this
  have HTR := Lib.hid (fun W => rtrim_rel k u W)
  clear hT
  have hl : k.cs.length = 17 := rfl
  go_enter Tryz.func17, Tryz.ntmps17
  go_upto_region 1 with fail
  generalize hV0 : ((w.alloc (Obj.cells k.cs.toArray 28)).alloc (Obj.cells #[.int .i64 u.a, .int .i64 u.b, .int .i64 u.c, .int .i64 u.d] 30)) = V0 at *
  clear hV0
  have uq0 := HU0.out.cell (i := 0) rfl
  have uq1 := HU0.out.cell (i := 1) rfl
  have uq2 := HU0.out.cell (i := 2) rfl
  have uq3 := HU0.out.cell (i := 3) rfl
  have uql := HU0.out.lt
  refine region2 5 ?_ ?_ ?_
  · kernel_rfl
  · kernel_rfl
  simp only [List.take_succ_cons, List.take_zero, List.drop_succ_cons, List.drop_zero]
  apply ceq (D := [(2, none)]) rfl (by kernel_rfl)
  · intro ρ W ⟨p1,p2,p3⟩ hG hF K hK; (try simp [FD] at hF); rw [xlb row28 rfl (HB0.out.grow (Gr.tr (Gr.drew _) hG)) rfl hF]; exact hK _ gv
  apply ceq (D := [(2, none)]) rfl (by kernel_rfl)
  · intro ρ W ⟨p1,p2,p3⟩ hG hF K hK; (try simp [FD] at hF); rw [xlb row28 rfl (HB0.out.grow (Gr.tr (Gr.drew _) hG)) rfl hF]; exact hK _ gv
  apply ceq (D := [(3, none)]) rfl (by kernel_rfl)
  · intro ρ W ⟨p1,p2,p3⟩ hG hF K hK; (try simp [FD] at hF); have ⟨hc, hf, hz⟩ := bdr hG; go_simp; exact hK _ gv
  refine cny (V := TrimV k u) (D := [(12, some 1), (13, some 0)]) rfl (by kernel_rfl) (TrimV.lasts _ _) ?_ ?_
  · intro ρ W ⟨p1,p2,p3⟩ hG hF K hK; (try simp [FD] at hF); have ⟨hc, hf, hz⟩ := bdr hG; go_simp; exact hK _ (gives_rel (HTR.out _))
  apply ceq (D := [(11, some 3), (14, some 0)]) rfl (by kernel_rfl)
  · intro ρ W ⟨p1,p2,p3⟩ hG hF K hK; (try simp [FD] at hF); have ⟨hc, hf, hz⟩ := bdr hG; obtain ⟨hF1, b, hv, hbe⟩ := hF; go_simp; exact hK _ (gc (HC.out b hbe _ (TH.out _ ((Gr.drew _).tr hG))))
  refine cdn ?_
  intro vs W hG hV
  obtain ⟨e4, -⟩ := hV
  simp only [Nat.reduceSub] at e4
  simp only [lay, Act.put, List.getElem?_toArray, List.getElem?_cons_succ, List.getElem?_cons_zero, Option.bind_some, List.setIfInBounds_toArray, List.set_cons_succ, List.set_cons_zero]
  generalize vs 0 = v0, vs 1 = v1, vs 2 = v2, vs 3 = v3
  generalize vs 4 = v4 at *
  subst e4
  obtain ⟨hc, hf, hz⟩ := bcell hG
  clear uq0 uq1 uq2 uq3 uql
  have HG1 := Lib.hid (HG0.out.tr hG)
  have HB1 := Lib.hid (HB0.out.grow hG)
  have HU1 := Lib.hid (HU0.out.grow hG)
  have TH1 := Lib.hid (fun (W' : World) (hg : Gr W W') => TH.out W' (Gr.tr hG hg))
  clear hc hf hz hG HB0 HU0 TH HC HTR
  rename World => W1
  go_wp2_with fail
  exact bodyPost_ret (v := .tuple #[.int .i64 0, .int .i64 0, .int .i64 r]) (by simp [results, Tryz.results17, go_sem]) rfl ⟨rfl, HG1.out⟩
theorem rhurts_ok (k : Cd) (u : Cu) (w : World) (hT : TsA k.p.l (.slice k.sp k.p.l.length k.cap) w) (r : Int) (hr0 : r = 0) (hok : k.p.ok = true) (hk : k.okc = true) (hp : k.p.pw.1 ≤ k.p.pw.2) (hu : u.isT k.cuts = true) (x y z : Int) (hxyz : Hid (k.hurtsA u = (x, y, z))) (he : Hid (k.err [u] = r)) :
    Calls Tryz.prog 17 #[.agg k.cs.toArray, .agg #[.int .i64 u.a, .int .i64 u.b, .int .i64 u.c, .int .i64 u.d]] w fun e w' => e = .returned (.tuple #[.int .i64 x, .int .i64 y, .int .i64 z]) ∧ Below w.heap.size w w' := by
  have htm := tm_ok (k := k) (mb := 0) (u := u) hk hu
  have HS : Hid (∀ W, TsA k.p.l (.slice k.sp k.p.l.length k.cap) W → Calls Tryz.prog 51 #[.agg k.cs.toArray] W fun e w' => (∃ v, e = .returned v ∧ NumsAt (k.p.sees.map (·.1)) v w') ∧ Below W.heap.size W w') := Lib.hid fun W h => rseenThings_ok k _ rfl W h hok hp
  obtain ⟨b, hb⟩ : ∃ b, (!decide ((⟨k, 0, u⟩ : Tm).first k.p.sees = (0, 0))) = b := ⟨_, rfl⟩
  obtain ⟨r1, r2, hr⟩ : ∃ a b, (⟨k, 0, u⟩ : Tm).first k.p.sees = (a, b) := ⟨_, _, rfl⟩
  have HH : Hid (∀ v W, TsA k.p.l (.slice k.sp k.p.l.length k.cap) W → NumsAt (k.p.sees.map (·.1)) v W → Calls Tryz.prog 56 #[.agg k.cs.toArray, .agg #[.int .i64 u.a, .int .i64 u.b, .int .i64 u.c, .int .i64 u.d], v] W fun e w' => e = .returned (.tuple #[.int .i64 r1, .int .i64 r2, .bool b]) ∧ Below W.heap.size W w') := Lib.hid fun v W h hN => by
    have := rhurts56 k u _ rfl v W h hok htm hN
    rwa [hb, hr] at this
  have HR := Lib.hid (show (b = false ∧ x = 0 ∧ y = 0 ∧ z = 0) ∨ (b = true ∧ x = r1 ∧ y = r2 ∧ z = 11) by
    have e := hxyz.out
    unfold Cd.hurtsA at e
    rw [if_pos (by rw [he.out, hr0]), hr] at e
    rw [hr] at hb
    by_cases c : (r1, r2) = ((0 : Int), (0 : Int))
    · rw [if_pos c] at e
      left
      refine ⟨by rw [← hb]; simp [c], ?_⟩
      simp at e
      omega
    · rw [if_neg c] at e
      right
      refine ⟨by rw [← hb]; simp [c], ?_⟩
      simp at e
      omega)
  have he := Lib.hid (he.out.trans hr0)
  clear hb hr htm
  have HG0 := Lib.hid (show Gr w ((w.alloc (Obj.cells k.cs.toArray 28)).alloc (Obj.cells #[.int .i64 u.a, .int .i64 u.b, .int .i64 u.c, .int .i64 u.d] 30)) from (Gr.alloc _ _).tr (Gr.alloc _ _))
  have TH := Lib.hid (fun (W : World) (hg : Gr ((w.alloc (Obj.cells k.cs.toArray 28)).alloc (Obj.cells #[.int .i64 u.a, .int .i64 u.b, .int .i64 u.c, .int .i64 u.d] 30)) W) => TsA.lasts k.p.l _ _ _ hT (HG0.out.tr hg))
  have HB0 := Lib.hid (show Box ((w.alloc (Obj.cells k.cs.toArray 28)).alloc (Obj.cells #[.int .i64 u.a, .int .i64 u.b, .int .i64 u.c, .int .i64 u.d] 30)) w.heap.size k.cs 28 from (Box.fresh w k.cs 28).grow (Gr.alloc _ _))
  have HU0 := Lib.hid (show Box ((w.alloc (Obj.cells k.cs.toArray 28)).alloc (Obj.cells #[.int .i64 u.a, .int .i64 u.b, .int .i64 u.c, .int .i64 u.d] 30)) (w.heap.size + 1) [.int .i64 u.a, .int .i64 u.b, .int .i64 u.c, .int .i64 u.d] 30 by simpa using Box.fresh (w.alloc (Obj.cells k.cs.toArray 28)) [.int .i64 u.a, .int .i64 u.b, .int .i64 u.c, .int .i64 u.d] 30)
  have HC : Hid (∀ b, k.errb b = k.err [u] → ∀ W, TsA k.p.l (.slice k.sp k.p.l.length k.cap) W → Calls Tryz.prog 50 #[.agg k.cs.toArray, .bool b] W fun e w' => e = .returned (.int .i64 0) ∧ Below W.heap.size W w') := Lib.hid fun b hb W h => by
    have := rcheck_any k b W h
    rwa [hb, he.out] at this
  have HTR := Lib.hid (fun W => rtrim_rel k u W)
  clear hT
  have hl : k.cs.length = 17 := rfl
  go_enter Tryz.func17, Tryz.ntmps17
  go_upto_region 1 with fail
  generalize hV0 : ((w.alloc (Obj.cells k.cs.toArray 28)).alloc (Obj.cells #[.int .i64 u.a, .int .i64 u.b, .int .i64 u.c, .int .i64 u.d] 30)) = V0 at *
  clear hV0
  have uq0 := HU0.out.cell (i := 0) rfl
  have uq1 := HU0.out.cell (i := 1) rfl
  have uq2 := HU0.out.cell (i := 2) rfl
  have uq3 := HU0.out.cell (i := 3) rfl
  have uql := HU0.out.lt
  refine region2 5 ?_ ?_ ?_
  · kernel_rfl
  · kernel_rfl
  simp only [List.take_succ_cons, List.take_zero, List.drop_succ_cons, List.drop_zero]
  apply ceq (D := [(2, none)]) rfl (by kernel_rfl)
  · intro ρ W ⟨p1,p2,p3⟩ hG hF K hK; (try simp [FD] at hF); rw [xlb row28 rfl (HB0.out.grow (Gr.tr (Gr.drew _) hG)) rfl hF]; exact hK _ gv
  apply ceq (D := [(2, none)]) rfl (by kernel_rfl)
  · intro ρ W ⟨p1,p2,p3⟩ hG hF K hK; (try simp [FD] at hF); rw [xlb row28 rfl (HB0.out.grow (Gr.tr (Gr.drew _) hG)) rfl hF]; exact hK _ gv
  apply ceq (D := [(3, none)]) rfl (by kernel_rfl)
  · intro ρ W ⟨p1,p2,p3⟩ hG hF K hK; (try simp [FD] at hF); have ⟨hc, hf, hz⟩ := bdr hG; go_simp; exact hK _ gv
  refine cny (V := TrimV k u) (D := [(12, some 1), (13, some 0)]) rfl (by kernel_rfl) (TrimV.lasts _ _) ?_ ?_
  · intro ρ W ⟨p1,p2,p3⟩ hG hF K hK; (try simp [FD] at hF); have ⟨hc, hf, hz⟩ := bdr hG; go_simp; exact hK _ (gives_rel (HTR.out _))
  apply ceq (D := [(11, some 3), (14, some 0)]) rfl (by kernel_rfl)
  · intro ρ W ⟨p1,p2,p3⟩ hG hF K hK; (try simp [FD] at hF); have ⟨hc, hf, hz⟩ := bdr hG; obtain ⟨hF1, b, hv, hbe⟩ := hF; go_simp; exact hK _ (gc (HC.out b hbe _ (TH.out _ ((Gr.drew _).tr hG))))
  refine cdn ?_
  intro vs W hG hV
  obtain ⟨e4, -⟩ := hV
  simp only [Nat.reduceSub] at e4
  simp only [lay, Act.put, List.getElem?_toArray, List.getElem?_cons_succ, List.getElem?_cons_zero, Option.bind_some, List.setIfInBounds_toArray, List.set_cons_succ, List.set_cons_zero]
  generalize vs 0 = v0, vs 1 = v1, vs 2 = v2, vs 3 = v3
  generalize vs 4 = v4 at *
  subst e4
  obtain ⟨hc, hf, hz⟩ := bcell hG
  clear uq0 uq1 uq2 uq3 uql
  have HG1 := Lib.hid (HG0.out.tr hG)
  have HB1 := Lib.hid (HB0.out.grow hG)
  have HU1 := Lib.hid (HU0.out.grow hG)
  have TH1 := Lib.hid (fun (W' : World) (hg : Gr W W') => TH.out W' (Gr.tr hG hg))
  clear hc hf hz hG HB0 HU0 TH HC HTR
  rename World => W1
  go_upto_region 4 with fail
  have uq0 := HU1.out.cell (i := 0) rfl
  have uq1 := HU1.out.cell (i := 1) rfl
  have uq2 := HU1.out.cell (i := 2) rfl
  have uq3 := HU1.out.cell (i := 3) rfl
  have uql := HU1.out.lt
  refine region2 12 ?_ ?_ ?_
  · kernel_rfl
  · kernel_rfl
  simp only [List.take_succ_cons, List.take_zero, List.drop_succ_cons, List.drop_zero]
  apply ceq (D := [(2, none)]) rfl (by kernel_rfl)
  · intro ρ W ⟨p1,p2,p3⟩ hG hF K hK; (try simp [FD] at hF); rw [xlb row28 rfl (HB1.out.grow (Gr.tr (Gr.drew _) hG)) rfl hF]; exact hK _ gv
  apply ceq (D := [(3, none)]) rfl (by kernel_rfl)
  · intro ρ W ⟨p1,p2,p3⟩ hG hF K hK; (try simp [FD] at hF); have ⟨hc, hf, hz⟩ := bdr hG; go_simp; exact hK _ gv
  apply ceq (D := [(2, none)]) rfl (by kernel_rfl)
  · intro ρ W ⟨p1,p2,p3⟩ hG hF K hK; (try simp [FD] at hF); rw [xlb row28 rfl (HB1.out.grow (Gr.tr (Gr.drew _) hG)) rfl hF]; exact hK _ gv
  refine cny (V := NumsAt (k.p.sees.map (·.1))) (D := [(22, some 0)]) rfl (by kernel_rfl) (NumsAt.lasts _) ?_ ?_
  · intro ρ W ⟨p1,p2,p3⟩ hG hF K hK; (try simp [FD] at hF); have ⟨hc, hf, hz⟩ := bdr hG; go_simp; exact hK _ (gives_rel (HS.out _ (TH1.out _ ((Gr.drew _).tr hG))))
  apply ceq (D := [(20, some 3), (21, some 2), (23, some 0)]) rfl (by kernel_rfl)
  · intro ρ W ⟨p1,p2,p3⟩ hG hF K hK; (try simp [FD] at hF); have ⟨hc, hf, hz⟩ := bdr hG; obtain ⟨hF1, hF2, hN⟩ := hF; go_simp; exact hK _ (gc (HH.out _ _ (TH1.out _ ((Gr.drew _).tr hG)) hN))
  apply ceq (D := [(24, some 0)]) rfl (by kernel_rfl)
  · intro ρ W ⟨p1,p2,p3⟩ hG hF K hK; (try simp [FD] at hF); have ⟨hc, hf, hz⟩ := bdr hG; go_simp; exact hK _ gv
  apply ceq (D := [(19, some 0)]) rfl (by kernel_rfl)
  · intro ρ W ⟨p1,p2,p3⟩ hG hF K hK; (try simp [FD] at hF); have ⟨hc, hf, hz⟩ := bdr hG; go_simp; exact hK _ gv
  apply ceq (D := [(19, some 1)]) rfl (by kernel_rfl)
  · intro ρ W ⟨p1,p2,p3⟩ hG hF K hK; (try simp [FD] at hF); have ⟨hc, hf, hz⟩ := bdr hG; go_simp; exact hK _ gv
  apply ceq (D := [(19, some 2)]) rfl (by kernel_rfl)
  · intro ρ W ⟨p1,p2,p3⟩ hG hF K hK; (try simp [FD] at hF); have ⟨hc, hf, hz⟩ := bdr hG; go_simp; exact hK _ gv
  apply ceq (D := [(25, some 2)]) rfl (by kernel_rfl)
  · intro ρ W ⟨p1,p2,p3⟩ hG hF K hK; (try simp [FD] at hF); have ⟨hc, hf, hz⟩ := bdr hG; go_simp; exact hK _ gv
  apply ceq (D := [(26, some 2)]) rfl (by kernel_rfl)
  · intro ρ W ⟨p1,p2,p3⟩ hG hF K hK; (try simp [FD] at hF); have ⟨hc, hf, hz⟩ := bdr hG; go_simp; exact hK _ gv
  apply ceq (D := [(27, some 2)]) rfl (by kernel_rfl)
  · intro ρ W ⟨p1,p2,p3⟩ hG hF K hK; (try simp [FD] at hF); have ⟨hc, hf, hz⟩ := bdr hG; go_simp; exact hK _ gv
  refine cdn ?_
  intro vs W hG hV
  obtain ⟨e11, e10, e9, -⟩ := hV
  simp only [Nat.reduceSub] at e9 e10
  simp only [Nat.reduceSub] at e11
  simp only [lay, Act.put, List.getElem?_toArray, List.getElem?_cons_succ, List.getElem?_cons_zero, Option.bind_some, List.setIfInBounds_toArray, List.set_cons_succ, List.set_cons_zero]
  generalize vs 0 = v0, vs 1 = v1, vs 2 = v2, vs 3 = v3, vs 4 = v4, vs 5 = v5, vs 6 = v6, vs 7 = v7, vs 8 = v8
  generalize vs 9 = v9 at *
  generalize vs 10 = v10 at *
  generalize vs 11 = v11 at *
  subst e9
  subst e10
  subst e11
  obtain ⟨hc, hf, hz⟩ := bcell hG
  have HG2 := Lib.hid (HG1.out.tr hG)
  clear hc hf hz hG uq0 uq1 uq2 uq3 uql
  rcases HR.out with ⟨rfl, rfl, rfl, rfl⟩ | ⟨rfl, rfl, rfl, rfl⟩
  · go_wp2_with fail
    exact bodyPost_ret (v := .tuple #[.int .i64 0, .int .i64 0, .int .i64 0]) (by simp [results, Tryz.results17, go_sem]) rfl ⟨rfl, HG2.out⟩
  · go_wp2_with fail
    exact bodyPost_ret (v := .tuple #[.int .i64 x, .int .i64 y, .int .i64 11]) (by simp [results, Tryz.results17, go_sem]) rfl ⟨rfl, HG2.out⟩
theorem rhurts_any (k : Cd) (u : Cu) (w : World) (hT : TsA k.p.l (.slice k.sp k.p.l.length k.cap) w) {x y z : Int} (h : k.hurtsA u = (x, y, z)) :
    Calls Tryz.prog 17 #[.agg k.cs.toArray, .agg #[.int .i64 u.a, .int .i64 u.b, .int .i64 u.c, .int .i64 u.d]] w fun e w' => e = .returned (.tuple #[.int .i64 x, .int .i64 y, .int .i64 z]) ∧ Below w.heap.size w w' := by
  by_cases c : k.err [u] = 0
  · obtain ⟨h1, h2, h3, h4⟩ := Cd.err_zero c
    exact rhurts_ok k u w hT 0 rfl h1 h2 h4 (h3 u (by simp)) x y z (Lib.hid h) (Lib.hid c)
  · unfold Cd.hurtsA at h
    rw [if_neg c] at h
    cases h
    exact rhurts_err k u w hT _ (by simpa using c) (Lib.hid rfl)
theorem rroom63 (k : Cd) (u : Cu) (w : World) (h : (⟨k, 0, u⟩ : Tm).ok) :
    Calls Tryz.prog 63 #[.agg k.cs.toArray, .agg #[.int .i64 u.a, .int .i64 u.b, .int .i64 u.c, .int .i64 u.d]] w fun e w' => e = .returned (.agg #[.int .i64 (⟨k, 0, u⟩ : Tm).rlo, .int .i64 (⟨k, 0, u⟩ : Tm).rhi]) ∧ Below w.heap.size w w' := by
  have b7 := h.elo
  have b8 := h.ehi
  have b9 := h.prism
  have b10 := h.squeeze
  have b11 := h.front
  have b12 := h.deep
  dsimp only at b7 b8 b9 b10 b11 b12
  obtain ⟨b7, b7'⟩ := b7
  obtain ⟨b8, b8'⟩ := b8
  obtain ⟨b9, b9'⟩ := b9
  obtain ⟨b10, b10'⟩ := b10
  obtain ⟨b11, b11'⟩ := b11
  obtain ⟨b12, b12'⟩ := b12
  have hw := h.win
  have hd := h.dist (s := 0) (by omega)
  have HW := Lib.hid (fun W => rwindow_ok k u h W)
  have HA := Lib.hid (fun W => rapart_ok k u h 0 (by omega) W)
  have hlo : (⟨k, 0, u⟩ : Tm).rlo = imax (imax 0 ((⟨k, 0, u⟩ : Tm).win - k.deep)) ((⟨k, 0, u⟩ : Tm).dist 0 - k.elo - k.prism) := by
    have e : (⟨k, 0, u⟩ : Tm).dist (k.elo + k.prism) = (⟨k, 0, u⟩ : Tm).dist 0 - k.elo - k.prism := by unfold Tm.dist; dsimp only; omega
    unfold Tm.rlo
    dsimp only
    rw [e]
    unfold imax
    (repeat' split) <;> omega
  have hhi : (⟨k, 0, u⟩ : Tm).rhi = imin (imin 2000 ((⟨k, 0, u⟩ : Tm).win + k.front)) ((⟨k, 0, u⟩ : Tm).dist 0 - k.ehi + k.squeeze) := by
    have e : (⟨k, 0, u⟩ : Tm).dist (k.ehi - k.squeeze) = (⟨k, 0, u⟩ : Tm).dist 0 - k.ehi + k.squeeze := by unfold Tm.dist; dsimp only; omega
    unfold Tm.rhi
    dsimp only
    rw [e]
    unfold imin
    (repeat' split) <;> omega
  rw [hlo, hhi]
  clear hlo hhi h
  obtain ⟨hw0, hw1⟩ := hw
  obtain ⟨hd0, hd1⟩ := hd
  generalize (⟨k, 0, u⟩ : Tm).win = wn at *
  generalize (⟨k, 0, u⟩ : Tm).dist 0 = D at *
  have hmx : ∀ (x y : Int), (if x < y then y else x) = imax x y := fun _ _ => rfl
  have hmn : ∀ (x y : Int), (if y < x then y else x) = imin x y := fun _ _ => rfl
  have HG0 := Lib.hid (show Gr w (((w.alloc (Obj.cells k.cs.toArray 28)).alloc (Obj.cells #[.int .i64 u.a, .int .i64 u.b, .int .i64 u.c, .int .i64 u.d] 30)).alloc (Obj.cells #[.int .i64 0, .int .i64 0] 23)) from ((Gr.alloc _ _).tr (Gr.alloc _ _)).tr (Gr.alloc _ _))
  have HB0 := Lib.hid (show Box (((w.alloc (Obj.cells k.cs.toArray 28)).alloc (Obj.cells #[.int .i64 u.a, .int .i64 u.b, .int .i64 u.c, .int .i64 u.d] 30)).alloc (Obj.cells #[.int .i64 0, .int .i64 0] 23)) w.heap.size k.cs 28 from (Box.fresh w k.cs 28).grow ((Gr.alloc _ _).tr (Gr.alloc _ _)))
  have HU0 := Lib.hid (show Box (((w.alloc (Obj.cells k.cs.toArray 28)).alloc (Obj.cells #[.int .i64 u.a, .int .i64 u.b, .int .i64 u.c, .int .i64 u.d] 30)).alloc (Obj.cells #[.int .i64 0, .int .i64 0] 23)) (w.heap.size + 1) [.int .i64 u.a, .int .i64 u.b, .int .i64 u.c, .int .i64 u.d] 30 by simpa using (Box.fresh (w.alloc (Obj.cells k.cs.toArray 28)) [.int .i64 u.a, .int .i64 u.b, .int .i64 u.c, .int .i64 u.d] 30).grow (Gr.alloc _ (Obj.cells #[.int .i64 0, .int .i64 0] 23)))
  have HZ0 := Lib.hid (show Box (((w.alloc (Obj.cells k.cs.toArray 28)).alloc (Obj.cells #[.int .i64 u.a, .int .i64 u.b, .int .i64 u.c, .int .i64 u.d] 30)).alloc (Obj.cells #[.int .i64 0, .int .i64 0] 23)) (w.heap.size + 1 + 1) [.int .i64 0, .int .i64 0] 23 by simpa using Box.fresh ((w.alloc (Obj.cells k.cs.toArray 28)).alloc (Obj.cells #[.int .i64 u.a, .int .i64 u.b, .int .i64 u.c, .int .i64 u.d] 30)) [.int .i64 0, .int .i64 0] 23)
  have hl : k.cs.length = 17 := rfl
  go_enter Tryz.func63, Tryz.ntmps63
  go_upto_region 1 with fail
  generalize hV0 : (((w.alloc (Obj.cells k.cs.toArray 28)).alloc (Obj.cells #[.int .i64 u.a, .int .i64 u.b, .int .i64 u.c, .int .i64 u.d] 30)).alloc (Obj.cells #[.int .i64 0, .int .i64 0] 23)) = V0 at *
  clear hV0
  have uq0 := HU0.out.cell (i := 0) rfl
  have uq1 := HU0.out.cell (i := 1) rfl
  have uq2 := HU0.out.cell (i := 2) rfl
  have uq3 := HU0.out.cell (i := 3) rfl
  have uql := HU0.out.lt
  have c11 := HB0.out.cell (i := 11) rfl
  have c12 := HB0.out.cell (i := 12) rfl
  have c13 := HB0.out.cell (i := 13) rfl
  have c14 := HB0.out.cell (i := 14) rfl
  have c15 := HB0.out.cell (i := 15) rfl
  have c16 := HB0.out.cell (i := 16) rfl
  have cl := HB0.out.lt
  refine region2 17 ?_ ?_ ?_
  · kernel_rfl
  · kernel_rfl
  simp only [List.take_succ_cons, List.take_zero, List.drop_succ_cons, List.drop_zero]
  apply ceq (D := [(2, none)]) rfl (by kernel_rfl)
  · intro ρ W ⟨p1,p2,p3⟩ hG hF K hK; (try simp [FD] at hF); rw [xlb row28 rfl (HB0.out.grow (Gr.tr (Gr.drew _) hG)) rfl hF]; exact hK _ gv
  apply ceq (D := [(3, none)]) rfl (by kernel_rfl)
  · intro ρ W ⟨p1,p2,p3⟩ hG hF K hK; (try simp [FD] at hF); have ⟨hc, hf, hz⟩ := bdr hG; go_simp; exact hK _ gv
  apply ceq (D := [(7, some 1), (8, some 0)]) rfl (by kernel_rfl)
  · intro ρ W ⟨p1,p2,p3⟩ hG hF K hK; (try simp [FD] at hF); have ⟨hc, hf, hz⟩ := bdr hG; go_simp; exact hK _ (gc (HW.out _))
  apply ceq (D := [(2, none)]) rfl (by kernel_rfl)
  · intro ρ W ⟨p1,p2,p3⟩ hG hF K hK; (try simp [FD] at hF); have ⟨hc, hf, hz⟩ := bdr hG; go_simp; exact hK _ gv
  apply ceq (D := [(10, some 0)]) rfl (by kernel_rfl)
  · intro ρ W ⟨p1,p2,p3⟩ hG hF K hK; (try simp [FD] at hF); have ⟨hc, hf, hz⟩ := bdr hG; go_simp; exact hK _ gv
  apply ceq (D := [(9, some 2), (11, some 0)]) rfl (by kernel_rfl)
  · intro ρ W ⟨p1,p2,p3⟩ hG hF K hK; (try simp [FD] at hF); have ⟨hc, hf, hz⟩ := bdr hG; go_simp; exact hK _ gv
  apply ceq (D := [(2, none)]) rfl (by kernel_rfl)
  · intro ρ W ⟨p1,p2,p3⟩ hG hF K hK; (try simp [FD] at hF); rw [xlb row28 rfl (HB0.out.grow (Gr.tr (Gr.drew _) hG)) rfl hF]; exact hK _ gv
  apply ceq (D := [(3, none)]) rfl (by kernel_rfl)
  · intro ρ W ⟨p1,p2,p3⟩ hG hF K hK; (try simp [FD] at hF); have ⟨hc, hf, hz⟩ := bdr hG; go_simp; exact hK _ gv
  apply ceq (D := [(13, some 1), (14, some 0)]) rfl (by kernel_rfl)
  · intro ρ W ⟨p1,p2,p3⟩ hG hF K hK; (try simp [FD] at hF); have ⟨hc, hf, hz⟩ := bdr hG; go_simp; exact hK _ (gc (HA.out _))
  apply ceq (D := [(2, none)]) rfl (by kernel_rfl)
  · intro ρ W ⟨p1,p2,p3⟩ hG hF K hK; (try simp [FD] at hF); have ⟨hc, hf, hz⟩ := bdr hG; go_simp; exact hK _ gv
  apply ceq (D := [(16, some 0)]) rfl (by kernel_rfl)
  · intro ρ W ⟨p1,p2,p3⟩ hG hF K hK; (try simp [FD] at hF); have ⟨hc, hf, hz⟩ := bdr hG; go_simp; exact hK _ gv
  apply ceq (D := [(17, some 0)]) rfl (by kernel_rfl)
  · intro ρ W ⟨p1,p2,p3⟩ hG hF K hK; (try simp [FD] at hF); have ⟨hc, hf, hz⟩ := bdr hG; go_simp; exact hK _ gv
  apply ceq (D := [(15, some 3), (18, some 0)]) rfl (by kernel_rfl)
  · intro ρ W ⟨p1,p2,p3⟩ hG hF K hK; (try simp [FD] at hF); have ⟨hc, hf, hz⟩ := bdr hG; go_simp; exact hK _ gv
  apply ceq (D := [(2, none)]) rfl (by kernel_rfl)
  · intro ρ W ⟨p1,p2,p3⟩ hG hF K hK; (try simp [FD] at hF); have ⟨hc, hf, hz⟩ := bdr hG; go_simp; exact hK _ gv
  apply ceq (D := [(20, some 0)]) rfl (by kernel_rfl)
  · intro ρ W ⟨p1,p2,p3⟩ hG hF K hK; (try simp [FD] at hF); have ⟨hc, hf, hz⟩ := bdr hG; go_simp; exact hK _ gv
  apply ceq (D := [(19, some 2), (21, some 0)]) rfl (by kernel_rfl)
  · intro ρ W ⟨p1,p2,p3⟩ hG hF K hK; (try simp [FD] at hF); have ⟨hc, hf, hz⟩ := bdr hG; go_simp; exact hK _ gv
  apply ceq (D := [(12, some 10), (22, some 0)]) rfl (by kernel_rfl)
  · intro ρ W ⟨p1,p2,p3⟩ hG hF K hK; (try simp [FD] at hF); have ⟨hc, hf, hz⟩ := bdr hG; go_simp; exact hK _ gv
  refine cdn ?_
  intro vs W hG hV
  obtain ⟨e16, -⟩ := hV
  simp only [Nat.reduceSub] at e16
  simp only [lay, Act.put, List.getElem?_toArray, List.getElem?_cons_succ, List.getElem?_cons_zero, Option.bind_some, List.setIfInBounds_toArray, List.set_cons_succ, List.set_cons_zero]
  generalize vs 0 = v0, vs 1 = v1, vs 2 = v2, vs 3 = v3, vs 4 = v4, vs 5 = v5, vs 6 = v6, vs 7 = v7, vs 8 = v8, vs 9 = v9, vs 10 = v10, vs 11 = v11, vs 12 = v12, vs 13 = v13, vs 14 = v14, vs 15 = v15
  generalize vs 16 = v16 at *
  subst e16
  obtain ⟨hc, hf, hz⟩ := bcell hG
  clear uq0 uq1 uq2 uq3 uql
  clear c11 c12 c13 c14 c15 c16 cl
  have HG1 := Lib.hid (HG0.out.tr hG)
  have HB1 := Lib.hid (HB0.out.grow hG)
  have HU1 := Lib.hid (HU0.out.grow hG)
  have HZ1 := Lib.hid (HZ0.out.grow hG)
  clear hc hf hz hG HB0 HU0 HZ0
  rename World => W1
  go_upto_region 2 with fail
  have uq0 := HU1.out.cell (i := 0) rfl
  have uq1 := HU1.out.cell (i := 1) rfl
  have uq2 := HU1.out.cell (i := 2) rfl
  have uq3 := HU1.out.cell (i := 3) rfl
  have uql := HU1.out.lt
  have c11 := HB1.out.cell (i := 11) rfl
  have c12 := HB1.out.cell (i := 12) rfl
  have c13 := HB1.out.cell (i := 13) rfl
  have c14 := HB1.out.cell (i := 14) rfl
  have c15 := HB1.out.cell (i := 15) rfl
  have c16 := HB1.out.cell (i := 16) rfl
  have cl := HB1.out.lt
  refine region2 17 ?_ ?_ ?_
  · kernel_rfl
  · kernel_rfl
  simp only [List.take_succ_cons, List.take_zero, List.drop_succ_cons, List.drop_zero]
  apply ceq (D := [(2, none)]) rfl (by kernel_rfl)
  · intro ρ W ⟨p1,p2,p3⟩ hG hF K hK; (try simp [FD] at hF); rw [xlb row28 rfl (HB1.out.grow (Gr.tr (Gr.drew _) hG)) rfl hF]; exact hK _ gv
  apply ceq (D := [(3, none)]) rfl (by kernel_rfl)
  · intro ρ W ⟨p1,p2,p3⟩ hG hF K hK; (try simp [FD] at hF); have ⟨hc, hf, hz⟩ := bdr hG; go_simp; exact hK _ gv
  apply ceq (D := [(24, some 1), (25, some 0)]) rfl (by kernel_rfl)
  · intro ρ W ⟨p1,p2,p3⟩ hG hF K hK; (try simp [FD] at hF); have ⟨hc, hf, hz⟩ := bdr hG; go_simp; exact hK _ (gc (HW.out _))
  apply ceq (D := [(2, none)]) rfl (by kernel_rfl)
  · intro ρ W ⟨p1,p2,p3⟩ hG hF K hK; (try simp [FD] at hF); have ⟨hc, hf, hz⟩ := bdr hG; go_simp; exact hK _ gv
  apply ceq (D := [(27, some 0)]) rfl (by kernel_rfl)
  · intro ρ W ⟨p1,p2,p3⟩ hG hF K hK; (try simp [FD] at hF); have ⟨hc, hf, hz⟩ := bdr hG; go_simp; exact hK _ gv
  apply ceq (D := [(26, some 2), (28, some 0)]) rfl (by kernel_rfl)
  · intro ρ W ⟨p1,p2,p3⟩ hG hF K hK; (try simp [FD] at hF); have ⟨hc, hf, hz⟩ := bdr hG; go_simp; exact hK _ gv
  apply ceq (D := [(2, none)]) rfl (by kernel_rfl)
  · intro ρ W ⟨p1,p2,p3⟩ hG hF K hK; (try simp [FD] at hF); rw [xlb row28 rfl (HB1.out.grow (Gr.tr (Gr.drew _) hG)) rfl hF]; exact hK _ gv
  apply ceq (D := [(3, none)]) rfl (by kernel_rfl)
  · intro ρ W ⟨p1,p2,p3⟩ hG hF K hK; (try simp [FD] at hF); have ⟨hc, hf, hz⟩ := bdr hG; go_simp; exact hK _ gv
  apply ceq (D := [(30, some 1), (31, some 0)]) rfl (by kernel_rfl)
  · intro ρ W ⟨p1,p2,p3⟩ hG hF K hK; (try simp [FD] at hF); have ⟨hc, hf, hz⟩ := bdr hG; go_simp; exact hK _ (gc (HA.out _))
  apply ceq (D := [(2, none)]) rfl (by kernel_rfl)
  · intro ρ W ⟨p1,p2,p3⟩ hG hF K hK; (try simp [FD] at hF); have ⟨hc, hf, hz⟩ := bdr hG; go_simp; exact hK _ gv
  apply ceq (D := [(33, some 0)]) rfl (by kernel_rfl)
  · intro ρ W ⟨p1,p2,p3⟩ hG hF K hK; (try simp [FD] at hF); have ⟨hc, hf, hz⟩ := bdr hG; go_simp; exact hK _ gv
  apply ceq (D := [(34, some 0)]) rfl (by kernel_rfl)
  · intro ρ W ⟨p1,p2,p3⟩ hG hF K hK; (try simp [FD] at hF); have ⟨hc, hf, hz⟩ := bdr hG; go_simp; exact hK _ gv
  apply ceq (D := [(32, some 3), (35, some 0)]) rfl (by kernel_rfl)
  · intro ρ W ⟨p1,p2,p3⟩ hG hF K hK; (try simp [FD] at hF); have ⟨hc, hf, hz⟩ := bdr hG; go_simp; exact hK _ gv
  apply ceq (D := [(2, none)]) rfl (by kernel_rfl)
  · intro ρ W ⟨p1,p2,p3⟩ hG hF K hK; (try simp [FD] at hF); have ⟨hc, hf, hz⟩ := bdr hG; go_simp; exact hK _ gv
  apply ceq (D := [(37, some 0)]) rfl (by kernel_rfl)
  · intro ρ W ⟨p1,p2,p3⟩ hG hF K hK; (try simp [FD] at hF); have ⟨hc, hf, hz⟩ := bdr hG; go_simp; exact hK _ gv
  apply ceq (D := [(36, some 2), (38, some 0)]) rfl (by kernel_rfl)
  · intro ρ W ⟨p1,p2,p3⟩ hG hF K hK; (try simp [FD] at hF); have ⟨hc, hf, hz⟩ := bdr hG; go_simp; exact hK _ gv
  apply ceq (D := [(29, some 10), (39, some 0)]) rfl (by kernel_rfl)
  · intro ρ W ⟨p1,p2,p3⟩ hG hF K hK; (try simp [FD] at hF); have ⟨hc, hf, hz⟩ := bdr hG; go_simp; exact hK _ gv
  refine cdn ?_
  intro vs W hG hV
  obtain ⟨e16, -⟩ := hV
  simp only [Nat.reduceSub] at e16
  simp only [lay, Act.put, List.getElem?_toArray, List.getElem?_cons_succ, List.getElem?_cons_zero, Option.bind_some, List.setIfInBounds_toArray, List.set_cons_succ, List.set_cons_zero]
  generalize vs 0 = v0, vs 1 = v1, vs 2 = v2, vs 3 = v3, vs 4 = v4, vs 5 = v5, vs 6 = v6, vs 7 = v7, vs 8 = v8, vs 9 = v9, vs 10 = v10, vs 11 = v11, vs 12 = v12, vs 13 = v13, vs 14 = v14, vs 15 = v15
  generalize vs 16 = v16 at *
  subst e16
  obtain ⟨hc, hf, hz⟩ := bcell hG
  clear uq0 uq1 uq2 uq3 uql
  clear c11 c12 c13 c14 c15 c16 cl
  have HG2 := Lib.hid (HG1.out.tr hG)
  have hz2 := HZ1.out.grow hG
  have z0 := hz2.cell (i := 0) rfl
  have z1 := hz2.cell (i := 1) rfl
  have zf := hz2.free
  have zl := hz2.lt
  clear hc hf hz hG hz2
  go_wp2_with fail
  exact bodyPost_ret (v := .agg #[.int .i64 (imax (imax 0 (wn - k.deep)) (D - k.elo - k.prism)), .int .i64 (imin (imin 2000 (wn + k.front)) (D - k.ehi + k.squeeze))]) (by simp [results, Tryz.results63, go_sem, z0, z1, zl, zf]) rfl ⟨rfl, ((show Below w.heap.size w _ from HG2.out).setCell (show w.heap.size ≤ w.heap.size + 1 + 1 by omega) _).setCell (show w.heap.size ≤ w.heap.size + 1 + 1 by omega) _⟩
theorem rroom_err (k : Cd) (u : Cu) (w : World) (hT : TsA k.p.l (.slice k.sp k.p.l.length k.cap) w) (r : Int) (hr0 : (r != 0) = true) (he : Hid (k.err [u] = r)) :
    Calls Tryz.prog 21 #[.agg k.cs.toArray, .agg #[.int .i64 u.a, .int .i64 u.b, .int .i64 u.c, .int .i64 u.d]] w fun e w' => e = .returned (.tuple #[.agg #[.int .i64 0, .int .i64 0], .int .i64 r]) ∧ Below w.heap.size w w' := by
  have HG0 := Lib.hid (show Gr w (((w.alloc (Obj.cells k.cs.toArray 28)).alloc (Obj.cells #[.int .i64 u.a, .int .i64 u.b, .int .i64 u.c, .int .i64 u.d] 30)).alloc (Obj.cells #[.int .i64 0, .int .i64 0] 23)) from ((Gr.alloc _ _).tr (Gr.alloc _ _)).tr (Gr.alloc _ _))
  have TH := Lib.hid (fun (W : World) (hg : Gr (((w.alloc (Obj.cells k.cs.toArray 28)).alloc (Obj.cells #[.int .i64 u.a, .int .i64 u.b, .int .i64 u.c, .int .i64 u.d] 30)).alloc (Obj.cells #[.int .i64 0, .int .i64 0] 23)) W) => TsA.lasts k.p.l _ _ _ hT (HG0.out.tr hg))
  have HB0 := Lib.hid (show Box (((w.alloc (Obj.cells k.cs.toArray 28)).alloc (Obj.cells #[.int .i64 u.a, .int .i64 u.b, .int .i64 u.c, .int .i64 u.d] 30)).alloc (Obj.cells #[.int .i64 0, .int .i64 0] 23)) w.heap.size k.cs 28 from (Box.fresh w k.cs 28).grow ((Gr.alloc _ _).tr (Gr.alloc _ _)))
  have HU0 := Lib.hid (show Box (((w.alloc (Obj.cells k.cs.toArray 28)).alloc (Obj.cells #[.int .i64 u.a, .int .i64 u.b, .int .i64 u.c, .int .i64 u.d] 30)).alloc (Obj.cells #[.int .i64 0, .int .i64 0] 23)) (w.heap.size + 1) [.int .i64 u.a, .int .i64 u.b, .int .i64 u.c, .int .i64 u.d] 30 by simpa using (Box.fresh (w.alloc (Obj.cells k.cs.toArray 28)) [.int .i64 u.a, .int .i64 u.b, .int .i64 u.c, .int .i64 u.d] 30).grow (Gr.alloc _ (Obj.cells #[.int .i64 0, .int .i64 0] 23)))
  have HZ0 := Lib.hid (show Box (((w.alloc (Obj.cells k.cs.toArray 28)).alloc (Obj.cells #[.int .i64 u.a, .int .i64 u.b, .int .i64 u.c, .int .i64 u.d] 30)).alloc (Obj.cells #[.int .i64 0, .int .i64 0] 23)) (w.heap.size + 1 + 1) [.int .i64 0, .int .i64 0] 23 by simpa using Box.fresh ((w.alloc (Obj.cells k.cs.toArray 28)).alloc (Obj.cells #[.int .i64 u.a, .int .i64 u.b, .int .i64 u.c, .int .i64 u.d] 30)) [.int .i64 0, .int .i64 0] 23)
  have HC : Hid (∀ b, k.errb b = k.err [u] → ∀ W, TsA k.p.l (.slice k.sp k.p.l.length k.cap) W → Calls Tryz.prog 50 #[.agg k.cs.toArray, .bool b] W fun e w' => e = .returned (.int .i64 r) ∧ Below W.heap.size W w') := Lib.hid fun b hb W h => by
    have := rcheck_any k b W h
    rwa [hb, he.out] at this
  have HTR := Lib.hid (fun W => rtrim_rel k u W)
  clear hT
  have hl : k.cs.length = 17 := rfl
  go_enter Tryz.func21, Tryz.ntmps21
  go_upto_region 1 with fail
  generalize hV0 : (((w.alloc (Obj.cells k.cs.toArray 28)).alloc (Obj.cells #[.int .i64 u.a, .int .i64 u.b, .int .i64 u.c, .int .i64 u.d] 30)).alloc (Obj.cells #[.int .i64 0, .int .i64 0] 23)) = V0 at *
  clear hV0
  have uq0 := HU0.out.cell (i := 0) rfl
  have uq1 := HU0.out.cell (i := 1) rfl
  have uq2 := HU0.out.cell (i := 2) rfl
  have uq3 := HU0.out.cell (i := 3) rfl
  have uql := HU0.out.lt
  refine region2 5 ?_ ?_ ?_
  · kernel_rfl
  · kernel_rfl
  simp only [List.take_succ_cons, List.take_zero, List.drop_succ_cons, List.drop_zero]
  apply ceq (D := [(2, none)]) rfl (by kernel_rfl)
  · intro ρ W ⟨p1,p2,p3⟩ hG hF K hK; (try simp [FD] at hF); rw [xlb row28 rfl (HB0.out.grow (Gr.tr (Gr.drew _) hG)) rfl hF]; exact hK _ gv
  apply ceq (D := [(2, none)]) rfl (by kernel_rfl)
  · intro ρ W ⟨p1,p2,p3⟩ hG hF K hK; (try simp [FD] at hF); rw [xlb row28 rfl (HB0.out.grow (Gr.tr (Gr.drew _) hG)) rfl hF]; exact hK _ gv
  apply ceq (D := [(3, none)]) rfl (by kernel_rfl)
  · intro ρ W ⟨p1,p2,p3⟩ hG hF K hK; (try simp [FD] at hF); have ⟨hc, hf, hz⟩ := bdr hG; go_simp; exact hK _ gv
  refine cny (V := TrimV k u) (D := [(9, some 1), (10, some 0)]) rfl (by kernel_rfl) (TrimV.lasts _ _) ?_ ?_
  · intro ρ W ⟨p1,p2,p3⟩ hG hF K hK; (try simp [FD] at hF); have ⟨hc, hf, hz⟩ := bdr hG; go_simp; exact hK _ (gives_rel (HTR.out _))
  apply ceq (D := [(8, some 3), (11, some 0)]) rfl (by kernel_rfl)
  · intro ρ W ⟨p1,p2,p3⟩ hG hF K hK; (try simp [FD] at hF); have ⟨hc, hf, hz⟩ := bdr hG; obtain ⟨hF1, b, hv, hbe⟩ := hF; go_simp; exact hK _ (gc (HC.out b hbe _ (TH.out _ ((Gr.drew _).tr hG))))
  refine cdn ?_
  intro vs W hG hV
  obtain ⟨e4, -⟩ := hV
  simp only [Nat.reduceSub] at e4
  simp only [lay, Act.put, List.getElem?_toArray, List.getElem?_cons_succ, List.getElem?_cons_zero, Option.bind_some, List.setIfInBounds_toArray, List.set_cons_succ, List.set_cons_zero]
  generalize vs 0 = v0, vs 1 = v1, vs 2 = v2, vs 3 = v3
  generalize vs 4 = v4 at *
  subst e4
  obtain ⟨hc, hf, hz⟩ := bcell hG
  clear uq0 uq1 uq2 uq3 uql
  have HG1 := Lib.hid (HG0.out.tr hG)
  have HB1 := Lib.hid (HB0.out.grow hG)
  have HU1 := Lib.hid (HU0.out.grow hG)
  have HZ1 := Lib.hid (HZ0.out.grow hG)
  have TH1 := Lib.hid (fun (W' : World) (hg : Gr W W') => TH.out W' (Gr.tr hG hg))
  clear hc hf hz hG HB0 HU0 TH HC HTR
  clear HZ0
  rename World => W1
  have z0 := HZ1.out.cell (i := 0) rfl
  have z1 := HZ1.out.cell (i := 1) rfl
  have zf := HZ1.out.free
  have zl := HZ1.out.lt
  go_wp2_with fail
  exact bodyPost_ret (v := .tuple #[.agg #[.int .i64 0, .int .i64 0], .int .i64 r]) (by simp [results, Tryz.results21, go_sem, z0, z1, zl, zf]) rfl ⟨rfl, ((show Below w.heap.size w _ from HG1.out).setCell (show w.heap.size ≤ w.heap.size + 1 + 1 by omega) _).setCell (show w.heap.size ≤ w.heap.size + 1 + 1 by omega) _⟩
theorem rroom_ok (k : Cd) (u : Cu) (w : World) (hT : TsA k.p.l (.slice k.sp k.p.l.length k.cap) w) (r : Int) (hr0 : r = 0) (lo hi : Int) (c : Bool) (HRM : Hid (∀ W, Calls Tryz.prog 63 #[.agg k.cs.toArray, .agg #[.int .i64 u.a, .int .i64 u.b, .int .i64 u.c, .int .i64 u.d]] W fun e w' => e = .returned (.agg #[.int .i64 lo, .int .i64 hi]) ∧ Below W.heap.size W w')) (hc : decide (hi < lo) = c) (x y z : Int) (hx : Hid (x = if c = true then 0 else lo)) (hy : Hid (y = if c = true then 0 else hi)) (hz : Hid (z = if c = true then 4 else 0)) (he : Hid (k.err [u] = r)) :
    Calls Tryz.prog 21 #[.agg k.cs.toArray, .agg #[.int .i64 u.a, .int .i64 u.b, .int .i64 u.c, .int .i64 u.d]] w fun e w' => e = .returned (.tuple #[.agg #[.int .i64 x, .int .i64 y], .int .i64 z]) ∧ Below w.heap.size w w' := by
  have he := Lib.hid (he.out.trans hr0)
  have HG0 := Lib.hid (show Gr w (((w.alloc (Obj.cells k.cs.toArray 28)).alloc (Obj.cells #[.int .i64 u.a, .int .i64 u.b, .int .i64 u.c, .int .i64 u.d] 30)).alloc (Obj.cells #[.int .i64 0, .int .i64 0] 23)) from ((Gr.alloc _ _).tr (Gr.alloc _ _)).tr (Gr.alloc _ _))
  have TH := Lib.hid (fun (W : World) (hg : Gr (((w.alloc (Obj.cells k.cs.toArray 28)).alloc (Obj.cells #[.int .i64 u.a, .int .i64 u.b, .int .i64 u.c, .int .i64 u.d] 30)).alloc (Obj.cells #[.int .i64 0, .int .i64 0] 23)) W) => TsA.lasts k.p.l _ _ _ hT (HG0.out.tr hg))
  have HB0 := Lib.hid (show Box (((w.alloc (Obj.cells k.cs.toArray 28)).alloc (Obj.cells #[.int .i64 u.a, .int .i64 u.b, .int .i64 u.c, .int .i64 u.d] 30)).alloc (Obj.cells #[.int .i64 0, .int .i64 0] 23)) w.heap.size k.cs 28 from (Box.fresh w k.cs 28).grow ((Gr.alloc _ _).tr (Gr.alloc _ _)))
  have HU0 := Lib.hid (show Box (((w.alloc (Obj.cells k.cs.toArray 28)).alloc (Obj.cells #[.int .i64 u.a, .int .i64 u.b, .int .i64 u.c, .int .i64 u.d] 30)).alloc (Obj.cells #[.int .i64 0, .int .i64 0] 23)) (w.heap.size + 1) [.int .i64 u.a, .int .i64 u.b, .int .i64 u.c, .int .i64 u.d] 30 by simpa using (Box.fresh (w.alloc (Obj.cells k.cs.toArray 28)) [.int .i64 u.a, .int .i64 u.b, .int .i64 u.c, .int .i64 u.d] 30).grow (Gr.alloc _ (Obj.cells #[.int .i64 0, .int .i64 0] 23)))
  have HZ0 := Lib.hid (show Box (((w.alloc (Obj.cells k.cs.toArray 28)).alloc (Obj.cells #[.int .i64 u.a, .int .i64 u.b, .int .i64 u.c, .int .i64 u.d] 30)).alloc (Obj.cells #[.int .i64 0, .int .i64 0] 23)) (w.heap.size + 1 + 1) [.int .i64 0, .int .i64 0] 23 by simpa using Box.fresh ((w.alloc (Obj.cells k.cs.toArray 28)).alloc (Obj.cells #[.int .i64 u.a, .int .i64 u.b, .int .i64 u.c, .int .i64 u.d] 30)) [.int .i64 0, .int .i64 0] 23)
  have HC : Hid (∀ b, k.errb b = k.err [u] → ∀ W, TsA k.p.l (.slice k.sp k.p.l.length k.cap) W → Calls Tryz.prog 50 #[.agg k.cs.toArray, .bool b] W fun e w' => e = .returned (.int .i64 0) ∧ Below W.heap.size W w') := Lib.hid fun b hb W h => by
    have := rcheck_any k b W h
    rwa [hb, he.out] at this
  have HTR := Lib.hid (fun W => rtrim_rel k u W)
  clear hT
  have hl : k.cs.length = 17 := rfl
  go_enter Tryz.func21, Tryz.ntmps21
  go_upto_region 1 with fail
  generalize hV0 : (((w.alloc (Obj.cells k.cs.toArray 28)).alloc (Obj.cells #[.int .i64 u.a, .int .i64 u.b, .int .i64 u.c, .int .i64 u.d] 30)).alloc (Obj.cells #[.int .i64 0, .int .i64 0] 23)) = V0 at *
  clear hV0
  have uq0 := HU0.out.cell (i := 0) rfl
  have uq1 := HU0.out.cell (i := 1) rfl
  have uq2 := HU0.out.cell (i := 2) rfl
  have uq3 := HU0.out.cell (i := 3) rfl
  have uql := HU0.out.lt
  refine region2 5 ?_ ?_ ?_
  · kernel_rfl
  · kernel_rfl
  simp only [List.take_succ_cons, List.take_zero, List.drop_succ_cons, List.drop_zero]
  apply ceq (D := [(2, none)]) rfl (by kernel_rfl)
  · intro ρ W ⟨p1,p2,p3⟩ hG hF K hK; (try simp [FD] at hF); rw [xlb row28 rfl (HB0.out.grow (Gr.tr (Gr.drew _) hG)) rfl hF]; exact hK _ gv
  apply ceq (D := [(2, none)]) rfl (by kernel_rfl)
  · intro ρ W ⟨p1,p2,p3⟩ hG hF K hK; (try simp [FD] at hF); rw [xlb row28 rfl (HB0.out.grow (Gr.tr (Gr.drew _) hG)) rfl hF]; exact hK _ gv
  apply ceq (D := [(3, none)]) rfl (by kernel_rfl)
  · intro ρ W ⟨p1,p2,p3⟩ hG hF K hK; (try simp [FD] at hF); have ⟨hc, hf, hz⟩ := bdr hG; go_simp; exact hK _ gv
  refine cny (V := TrimV k u) (D := [(9, some 1), (10, some 0)]) rfl (by kernel_rfl) (TrimV.lasts _ _) ?_ ?_
  · intro ρ W ⟨p1,p2,p3⟩ hG hF K hK; (try simp [FD] at hF); have ⟨hc, hf, hz⟩ := bdr hG; go_simp; exact hK _ (gives_rel (HTR.out _))
  apply ceq (D := [(8, some 3), (11, some 0)]) rfl (by kernel_rfl)
  · intro ρ W ⟨p1,p2,p3⟩ hG hF K hK; (try simp [FD] at hF); have ⟨hc, hf, hz⟩ := bdr hG; obtain ⟨hF1, b, hv, hbe⟩ := hF; go_simp; exact hK _ (gc (HC.out b hbe _ (TH.out _ ((Gr.drew _).tr hG))))
  refine cdn ?_
  intro vs W hG hV
  obtain ⟨e4, -⟩ := hV
  simp only [Nat.reduceSub] at e4
  simp only [lay, Act.put, List.getElem?_toArray, List.getElem?_cons_succ, List.getElem?_cons_zero, Option.bind_some, List.setIfInBounds_toArray, List.set_cons_succ, List.set_cons_zero]
  generalize vs 0 = v0, vs 1 = v1, vs 2 = v2, vs 3 = v3
  generalize vs 4 = v4 at *
  subst e4
  obtain ⟨hc, hf, hz⟩ := bcell hG
  clear uq0 uq1 uq2 uq3 uql
  have HG1 := Lib.hid (HG0.out.tr hG)
  have HB1 := Lib.hid (HB0.out.grow hG)
  have HU1 := Lib.hid (HU0.out.grow hG)
  have HZ1 := Lib.hid (HZ0.out.grow hG)
  have TH1 := Lib.hid (fun (W' : World) (hg : Gr W W') => TH.out W' (Gr.tr hG hg))
  clear hf hG HB0 HU0 TH HC HTR
  clear HZ0
  rename World => W1
  have uq0 := HU1.out.cell (i := 0) rfl
  have uq1 := HU1.out.cell (i := 1) rfl
  have uq2 := HU1.out.cell (i := 2) rfl
  have uq3 := HU1.out.cell (i := 3) rfl
  have uql := HU1.out.lt
  go_wp2_with (first | (with_reducible refine wsl (ty := 28) rfl ?_; unfold Stop; first | refine wlb row28 rfl (HB1.out) rfl rfl rfl ?_ | refine wlg row28 rfl (HB1.out) (Cd.whole k) rfl rfl rfl ?_))
  refine (HRM.out _).mono ?_
  rintro e w2 ⟨rfl, hb2⟩
  have hga := Gr.tr hb2 (Gr.alloc w2 (Obj.cells #[.int .i64 lo, .int .i64 hi] 23))
  have HG2 := Lib.hid (HG1.out.tr hga)
  have HZ2 := Lib.hid (HZ1.out.grow hga)
  have HS2 := Lib.hid (Box.fresh w2 [.int .i64 lo, .int .i64 hi] 23)
  clear hb2 hga uq0 uq1 uq2 uq3 uql
  go_upto_region 5 with fail
  generalize (w2.alloc (Obj.cells #[.int .i64 lo, .int .i64 hi] 23)) = V2 at *
  generalize w2.heap.size = bs at *
  have s0 := HS2.out.cell (i := 0) rfl
  have s1 := HS2.out.cell (i := 1) rfl
  have sl := HS2.out.lt
  have z0 := HZ2.out.cell (i := 0) rfl
  have z1 := HZ2.out.cell (i := 1) rfl
  have zf := HZ2.out.free
  have zl := HZ2.out.lt
  cases c with
  | true =>
    have hc' := of_decide_eq_true hc
    go_wp2_with fail
    exact bodyPost_ret (v := .tuple #[.agg #[.int .i64 0, .int .i64 0], .int .i64 4]) (by simp [results, Tryz.results21, go_sem, z0, z1, zl, zf]) rfl ⟨by rw [hx.out, hy.out, hz.out]; rfl, ((show Below w.heap.size w _ from HG2.out).setCell (show w.heap.size ≤ w.heap.size + 1 + 1 by omega) _).setCell (show w.heap.size ≤ w.heap.size + 1 + 1 by omega) _⟩
  | false =>
    have hc' := of_decide_eq_false hc
    go_wp2_with fail
    exact bodyPost_ret (v := .tuple #[.agg #[.int .i64 lo, .int .i64 hi], .int .i64 0]) (by simp [results, Tryz.results21, go_sem, z0, z1, zl, zf]) rfl ⟨by rw [hx.out, hy.out, hz.out]; rfl, ((show Below w.heap.size w _ from HG2.out).setCell (show w.heap.size ≤ w.heap.size + 1 + 1 by omega) _).setCell (show w.heap.size ≤ w.heap.size + 1 + 1 by omega) _⟩
theorem rroom_any (k : Cd) (u : Cu) (w : World) (hT : TsA k.p.l (.slice k.sp k.p.l.length k.cap) w) {x y z : Int} (h : k.roomA u = (x, y, z)) :
    Calls Tryz.prog 21 #[.agg k.cs.toArray, .agg #[.int .i64 u.a, .int .i64 u.b, .int .i64 u.c, .int .i64 u.d]] w fun e w' => e = .returned (.tuple #[.agg #[.int .i64 x, .int .i64 y], .int .i64 z]) ∧ Below w.heap.size w w' := by
  unfold Cd.roomA at h
  by_cases c : k.err [u] = 0
  · rw [if_pos c] at h
    obtain ⟨h1, h2, h3, h4⟩ := Cd.err_zero c
    have htm := tm_ok (k := k) (mb := 0) (u := u) h2 (h3 u (by simp))
    unfold Tm.room at h
    refine rroom_ok k u w hT 0 rfl (⟨k, 0, u⟩ : Tm).rlo (⟨k, 0, u⟩ : Tm).rhi _ (Lib.hid fun W => rroom63 k u W htm) rfl x y z (Lib.hid ?_) (Lib.hid ?_) (Lib.hid ?_) (Lib.hid c)
    all_goals
      by_cases g : (⟨k, 0, u⟩ : Tm).rhi < (⟨k, 0, u⟩ : Tm).rlo
      · rw [if_pos g] at h; cases h; simp [g]
      · rw [if_neg g] at h; cases h; simp [g]
  · rw [if_neg c] at h
    cases h
    exact rroom_err k u w hT _ (by simpa using c) (Lib.hid rfl)
end Go.Proofs.YtcngaohfemdfjaaGreat
