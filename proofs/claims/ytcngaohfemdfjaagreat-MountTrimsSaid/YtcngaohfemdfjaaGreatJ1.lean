import Derived.Test.YtcngaohfemdfjaaGreatE34
import Derived.Test.YtcngaohfemdfjaaGreatE33
import Derived.Test.YtcngaohfemdfjaaGreatJ0
import Derived.RegionTactic
import Derived.Deep.CutBlock
import Derived.Deep.DeepCutAuto
set_option linter.unusedVariables false
set_option linter.unusedSimpArgs false
set_option maxRecDepth 100000
set_option maxHeartbeats 60000000
namespace Go.Proofs.YtcngaohfemdfjaaGreat
open Go.RowKit
theorem rbest_any (k : Cd) (w : World) (hT : TsA k.p.l (.slice k.sp k.p.l.length k.cap) w) (hok : k.p.ok = true) (hk : k.okc = true) (hp : k.p.pw.1 ≤ k.p.pw.2) (t : Cu) (b : Bool) (htb : Hid ((b = true ∧ k.trim = some t) ∨ (b = false ∧ t = ⟨0, 0, 0, 0⟩ ∧ k.trim = none))) :
    Calls Tryz.prog 69 #[.agg k.cs.toArray] w fun e w' => e = .returned (.tuple #[.agg #[.int .i64 t.a, .int .i64 t.b, .int .i64 t.c, .int .i64 t.d], .bool b]) ∧ Below w.heap.size w w' := by
  have hkc := okc_cuts hk
  obtain ⟨hk0, hk1⟩ := hkc
  have hkk := hk0
  have HT := Lib.hid hT
  have HS : Hid (∀ W, TsA k.p.l (.slice k.sp k.p.l.length k.cap) W → Calls Tryz.prog 51 #[.agg k.cs.toArray] W fun e w' => (∃ v, e = .returned v ∧ NumsAt (k.p.sees.map (·.1)) v w') ∧ Below W.heap.size W w') := Lib.hid fun W h => rseenThings_ok k _ rfl W h hok hp
  have HHU := Lib.hid (fun (u : Cu) (hu : u.isT k.cuts = true) v W h hN => rhurts56 k u _ rfl v W h hok (tm_ok (k := k) (mb := 0) (u := u) hk hu) hN)
  have HTRI := Lib.hid (fun (u : Cu) W => rtrimming_any k u W (by omega))
  have HG0 := Lib.hid (show Gr w ((w.alloc (Obj.cells k.cs.toArray 28)).alloc (Obj.cells #[.int .i64 0, .int .i64 0, .int .i64 0, .int .i64 0] 30)) from (Gr.alloc _ _).tr (Gr.alloc _ _))
  have HB0 := Lib.hid (show Box ((w.alloc (Obj.cells k.cs.toArray 28)).alloc (Obj.cells #[.int .i64 0, .int .i64 0, .int .i64 0, .int .i64 0] 30)) w.heap.size k.cs 28 from (Box.fresh w k.cs 28).grow (Gr.alloc _ _))
  have HZ0 := Lib.hid (show Box ((w.alloc (Obj.cells k.cs.toArray 28)).alloc (Obj.cells #[.int .i64 0, .int .i64 0, .int .i64 0, .int .i64 0] 30)) (w.heap.size + 1) [.int .i64 0, .int .i64 0, .int .i64 0, .int .i64 0] 30 by simpa using Box.fresh (w.alloc (Obj.cells k.cs.toArray 28)) [.int .i64 0, .int .i64 0, .int .i64 0, .int .i64 0] 30)
  have hl : k.cs.length = 17 := rfl
  clear hT
  go_enter Tryz.func69, Tryz.ntmps69
  go_upto_region 1 with fail
  generalize hV0 : ((w.alloc (Obj.cells k.cs.toArray 28)).alloc (Obj.cells #[.int .i64 0, .int .i64 0, .int .i64 0, .int .i64 0] 30)) = V0 at *
  clear hV0
  go_wp2_with (first | (with_reducible refine wsl (ty := 28) rfl ?_; unfold Stop; first | refine wlb row28 rfl (HB0.out) rfl rfl rfl ?_ | refine wlg row28 rfl (HB0.out) (Cd.whole k) rfl rfl rfl ?_))
  refine (HS.out _ (TsA.lasts _ _ _ _ HT.out HG0.out)).mono ?_
  rintro e w2 ⟨⟨v, rfl, hN⟩, hb2⟩
  have HG2 := Lib.hid (HG0.out.tr hb2)
  have HB2 := Lib.hid (HB0.out.grow hb2)
  have HZ2 := Lib.hid (HZ0.out.grow hb2)
  have HN2 := Lib.hid hN
  clear hN hb2 HB0 HZ0 HG0
  go_wp2_with fail
  go_loopw [6, 7] (fun f i wr => ∃ A : Int, 0 ≤ A ∧ A ≤ k.cuts + 1 ∧ i = .int .i64 A ∧ ∃ out : Cu, ∃ fd : Bool, f = .bool fd ∧ Gr w2 wr ∧ Box wr w2.heap.size [.int .i64 out.a, .int .i64 out.b, .int .i64 out.c, .int .i64 out.d] 30 ∧ Bst k A 0 0 out fd) (fun _ i _ => (k.cuts + 1 - intOf i).toNat)
  case atStart => exact ⟨0, by omega, by omega, rfl, ⟨0, 0, 0, 0⟩, false, rfl, Gr.alloc _ _, Box.fresh w2 [.int .i64 0, .int .i64 0, .int .i64 0, .int .i64 0] 30, Bst.start k⟩
  case round =>
    obtain ⟨A, hA0, hA1, rfl, out, fd, rfl, hg, hbo, hbst⟩ := hrel
    have c10 := (HB2.out.grow hg).cell (i := 10) rfl
    have cl := (HB2.out.grow hg).lt
    by_cases hlt : A ≤ k.cuts
    · have hlt' : decide (A ≤ k.cuts) = true := by simpa using hlt
      have HG := Lib.hid hg
      have HBO := Lib.hid hbo
      have HST := Lib.hid hbst
      clear hg hbo hbst
      go_wp2_with fail
      go_loopw [6, 8] (fun f i wr => ∃ B : Int, 0 ≤ B ∧ B ≤ k.cuts + 1 ∧ i = .int .i64 B ∧ ∃ out : Cu, ∃ fd : Bool, f = .bool fd ∧ Gr w2 wr ∧ Box wr w2.heap.size [.int .i64 out.a, .int .i64 out.b, .int .i64 out.c, .int .i64 out.d] 30 ∧ Bst k A B 0 out fd) (fun _ i _ => (k.cuts + 1 - intOf i).toNat)
      case atStart => exact ⟨0, by omega, by omega, rfl, out, fd, rfl, HG.out, HBO.out, HST.out⟩
      case round =>
        obtain ⟨B, hB0, hB1, rfl, out, fd, rfl, hg, hbo, hbst⟩ := hrel
        have c10 := (HB2.out.grow hg).cell (i := 10) rfl
        have cl := (HB2.out.grow hg).lt
        have HG := Lib.hid hg
        have HBO := Lib.hid hbo
        have HST := Lib.hid hbst
        clear hg hbo hbst
        by_cases hltB : B ≤ k.cuts
        · have hltB' : decide (B ≤ k.cuts) = true := by simpa using hltB
          go_wp2_with fail
          go_loopw [6, 9] (fun f i wr => ∃ D : Int, 0 ≤ D ∧ D ≤ k.cuts + 1 ∧ i = .int .i64 D ∧ ∃ out : Cu, ∃ fd : Bool, f = .bool fd ∧ Gr w2 wr ∧ Box wr w2.heap.size [.int .i64 out.a, .int .i64 out.b, .int .i64 out.c, .int .i64 out.d] 30 ∧ Bst k A B D out fd) (fun _ i _ => (k.cuts + 1 - intOf i).toNat)
          case atStart => exact ⟨0, by omega, by omega, rfl, out, fd, rfl, HG.out, HBO.out, HST.out⟩
          case round =>
            obtain ⟨D, hD0, hD1, rfl, out, fd, rfl, hg, hbo, hbst⟩ := hrel
            have c10 := (HB2.out.grow hg).cell (i := 10) rfl
            have cl := (HB2.out.grow hg).lt
            have HG := Lib.hid hg
            have HBO := Lib.hid hbo
            have HST := Lib.hid hbst
            clear hg hbo hbst
            by_cases hltD : D ≤ k.cuts
            · have hltD' : decide (D ≤ k.cuts) = true := by simpa using hltD
              obtain ⟨wr, hwr⟩ : ∃ W : World, W = wr := ⟨_, rfl⟩
              subst hwr
              have hga := Gr.alloc wr (Obj.cells #[.int .i64 A, .int .i64 B, .int .i64 D, .int .i64 (A + B - D)] 30)
              have HG4 := Lib.hid (Gr.tr HG.out hga)
              have HBO4 := Lib.hid (HBO.out.grow hga)
              have HB3 := Lib.hid (HB2.out.grow HG4.out)
              have HX3 := Lib.hid (Box.fresh wr [.int .i64 A, .int .i64 B, .int .i64 D, .int .i64 (A + B - D)] 30)
              go_upto_region 13 with fail
              clear hga c10 cl HG HBO
              generalize (wr.alloc (Obj.cells #[.int .i64 A, .int .i64 B, .int .i64 D, .int .i64 (A + B - D)] 30)) = V3 at *
              generalize wr.heap.size = bt at *
              have x0 := HX3.out.cell (i := 0) rfl
              have x1 := HX3.out.cell (i := 1) rfl
              have x2 := HX3.out.cell (i := 2) rfl
              have x3 := HX3.out.cell (i := 3) rfl
              have xl := HX3.out.lt
              have o0 := HBO4.out.cell (i := 0) rfl
              have o1 := HBO4.out.cell (i := 1) rfl
              have o2 := HBO4.out.cell (i := 2) rfl
              have o3 := HBO4.out.cell (i := 3) rfl
              have ol := HBO4.out.lt
              cases hTc : ((⟨A, B, D, A + B - D⟩ : Cu).isT k.cuts) with
              | false =>
                have T1 : Hid (∀ W : World, Calls Tryz.prog 29 #[.agg k.cs.toArray, .agg #[.int .i64 A, .int .i64 B, .int .i64 D, .int .i64 (A + B - D)]] W fun e w' => e = .returned (.bool false) ∧ Below W.heap.size W w') := Lib.hid fun W => by
                  have := HTRI.out ⟨A, B, D, A + B - D⟩ W
                  rwa [hTc] at this
                have HNW := Lib.hid (HST.out.not hTc)
                refine region2 13 ?_ ?_ ?_
                · kernel_rfl
                · kernel_rfl
                simp only [List.take_succ_cons, List.take_zero, List.drop_succ_cons, List.drop_zero]
                apply ceq (D := [(1, none)]) rfl (by kernel_rfl)
                · intro ρ W ⟨p1,p2,p3⟩ hG hF K hK; (try simp [FD] at hF); rw [xlb row28 rfl (HB3.out.grow (Gr.tr (Gr.drew _) hG)) rfl hF]; exact hK _ gv
                apply ceq (D := [(10, none)]) rfl (by kernel_rfl)
                · intro ρ W ⟨p1,p2,p3⟩ hG hF K hK; (try simp [FD] at hF); have ⟨hc, hf, hz⟩ := bdr hG; go_simp; exact hK _ gv
                apply ceq (D := [(44, some 1), (45, some 0)]) rfl (by kernel_rfl)
                · intro ρ W ⟨p1,p2,p3⟩ hG hF K hK; (try simp [FD] at hF); have ⟨hc, hf, hz⟩ := bdr hG; go_simp; exact hK _ (gc (T1.out _))
                apply ceq (D := [(46, some 0)]) rfl (by kernel_rfl)
                · intro ρ W ⟨p1,p2,p3⟩ hG hF K hK; (try simp [FD] at hF); have ⟨hc, hf, hz⟩ := bdr hG; go_simp; exact hK _ gv
                apply ceq (D := [(47, some 0)]) rfl (by kernel_rfl)
                · intro ρ W ⟨p1,p2,p3⟩ hG hF K hK; (try simp [FD] at hF); have ⟨hc, hf, hz⟩ := bdr hG; go_simp; exact hK _ gv
                refine csk (D := [(6, none), (48, some 0)]) (by kernel_rfl) ?_ ?_
                · intro ρ W hF; (try simp [FD] at hF); simp [Lets, *, undef]
                refine csk (D := [(49, some 0), (48, some 1)]) (by kernel_rfl) ?_ ?_
                · intro ρ W hF; (try simp [FD] at hF); simp [Lets, *, undef]
                refine csk (D := [(10, none), (50, some 0)]) (by kernel_rfl) ?_ ?_
                · intro ρ W hF; (try simp [FD] at hF); simp [Lets, *, undef]
                refine csk (D := [(51, some 0), (50, some 1)]) (by kernel_rfl) ?_ ?_
                · intro ρ W hF; (try simp [FD] at hF); simp [Lets, *, undef]
                refine csk (D := [(5, none), (50, some 2)]) (by kernel_rfl) ?_ ?_
                · intro ρ W hF; (try simp [FD] at hF); simp [Lets, *, undef]
                refine csk (D := [(53, some 0), (50, some 3)]) (by kernel_rfl) ?_ ?_
                · intro ρ W hF; (try simp [FD] at hF); simp [Lets, *, undef]
                refine csk (D := [(52, some 2), (54, some 0), (50, some 4)]) (by kernel_rfl) ?_ ?_
                · intro ρ W hF; (try simp [FD] at hF); simp [Lets, *, undef]
                refine csk (D := [(50, some 5), (55, some 0), (48, some 7)]) (by kernel_rfl) ?_ ?_
                · intro ρ W hF; (try simp [FD] at hF); simp [Lets, *, undef]
                refine cdn ?_
                intro vs W hG hV
                obtain ⟨-, -, -, -, -, -, -, -, e4, -⟩ := hV
                simp only [Nat.reduceSub] at e4
                simp only [lay, Act.put, List.getElem?_toArray, List.getElem?_cons_succ, List.getElem?_cons_zero, Option.bind_some, List.setIfInBounds_toArray, List.set_cons_succ, List.set_cons_zero]
                generalize vs 0 = v0, vs 1 = v1, vs 2 = v2, vs 3 = v3
                generalize vs 4 = v4 at *
                generalize vs 5 = v5, vs 6 = v6, vs 7 = v7, vs 8 = v8, vs 9 = v9, vs 10 = v10, vs 11 = v11, vs 12 = v12
                subst e4
                obtain ⟨hc, hf, hz⟩ := bcell hG
                have HG5 := Lib.hid (Gr.tr HG4.out hG)
                have HBO5 := Lib.hid (HBO4.out.grow hG)
                have HB5 := Lib.hid (HB3.out.grow hG)
                have HX5 := Lib.hid (HX3.out.grow hG)
                clear hc hf hz hG x0 x1 x2 x3 xl o0 o1 o2 o3 ol
                go_wp2
                exact ⟨⟨D + 1, by omega, by omega, by go_num, out, fd, rfl, HG5.out, HBO5.out, HNW.out⟩, by simp [intOf]; omega⟩
              | true =>
                have T1 : Hid (∀ W : World, Calls Tryz.prog 29 #[.agg k.cs.toArray, .agg #[.int .i64 A, .int .i64 B, .int .i64 D, .int .i64 (A + B - D)]] W fun e w' => e = .returned (.bool true) ∧ Below W.heap.size W w') := Lib.hid fun W => by
                  have := HTRI.out ⟨A, B, D, A + B - D⟩ W
                  rwa [hTc] at this
                have hce := isT_ends hTc
                dsimp only at hce
                obtain ⟨hce1, hce2, hce3, hce4, -⟩ := hce
                obtain ⟨bb, hbb⟩ : ∃ b, (!k.okT ⟨A, B, D, A + B - D⟩) = b := ⟨_, rfl⟩
                obtain ⟨r1, r2, HH⟩ : ∃ r1 r2, Hid (∀ W, TsA k.p.l (.slice k.sp k.p.l.length k.cap) W → NumsAt (k.p.sees.map (·.1)) v W → Calls Tryz.prog 56 #[.agg k.cs.toArray, .agg #[.int .i64 A, .int .i64 B, .int .i64 D, .int .i64 (A + B - D)], v] W fun e w' => e = .returned (.tuple #[.int .i64 r1, .int .i64 r2, .bool bb]) ∧ Below W.heap.size W w') := ⟨_, _, Lib.hid fun W h hN => by
                  have := HHU.out ⟨A, B, D, A + B - D⟩ hTc v W h hN
                  unfold Cd.okT at hbb
                  rw [hbb] at this
                  exact this⟩
                cases fd with
                | false =>
                  refine region2 13 ?_ ?_ ?_
                  · kernel_rfl
                  · kernel_rfl
                  simp only [List.take_succ_cons, List.take_zero, List.drop_succ_cons, List.drop_zero]
                  apply ceq (D := [(1, none)]) rfl (by kernel_rfl)
                  · intro ρ W ⟨p1,p2,p3⟩ hG hF K hK; (try simp [FD] at hF); rw [xlb row28 rfl (HB3.out.grow (Gr.tr (Gr.drew _) hG)) rfl hF]; exact hK _ gv
                  apply ceq (D := [(10, none)]) rfl (by kernel_rfl)
                  · intro ρ W ⟨p1,p2,p3⟩ hG hF K hK; (try simp [FD] at hF); have ⟨hc, hf, hz⟩ := bdr hG; go_simp; exact hK _ gv
                  apply ceq (D := [(44, some 1), (45, some 0)]) rfl (by kernel_rfl)
                  · intro ρ W ⟨p1,p2,p3⟩ hG hF K hK; (try simp [FD] at hF); have ⟨hc, hf, hz⟩ := bdr hG; go_simp; exact hK _ (gc (T1.out _))
                  apply ceq (D := [(46, some 0)]) rfl (by kernel_rfl)
                  · intro ρ W ⟨p1,p2,p3⟩ hG hF K hK; (try simp [FD] at hF); have ⟨hc, hf, hz⟩ := bdr hG; go_simp; exact hK _ gv
                  apply ceq (D := [(47, some 0)]) rfl (by kernel_rfl)
                  · intro ρ W ⟨p1,p2,p3⟩ hG hF K hK; (try simp [FD] at hF); have ⟨hc, hf, hz⟩ := bdr hG; go_simp; exact hK _ gv
                  apply clq (D := [(6, none), (48, some 0)]) (by kernel_rfl)
                  · intro ρ W hF; (try simp [FD] at hF); simp [Lets, *, undef]
                  · intro ρ W ⟨p1,p2,p3⟩ hG hF K hK; (try simp [FD] at hF); have ⟨hc, hf, hz⟩ := bdr hG; go_simp; exact hK _ gv
                  apply clq (D := [(49, some 0), (48, some 1)]) (by kernel_rfl)
                  · intro ρ W hF; (try simp [FD] at hF); simp [Lets, *, undef]
                  · intro ρ W ⟨p1,p2,p3⟩ hG hF K hK; (try simp [FD] at hF); have ⟨hc, hf, hz⟩ := bdr hG; go_simp; exact hK _ gv
                  refine csk (D := [(10, none), (50, some 0)]) (by kernel_rfl) ?_ ?_
                  · intro ρ W hF; (try simp [FD] at hF); simp [Lets, *, undef]
                  refine csk (D := [(51, some 0), (50, some 1)]) (by kernel_rfl) ?_ ?_
                  · intro ρ W hF; (try simp [FD] at hF); simp [Lets, *, undef]
                  refine csk (D := [(5, none), (50, some 2)]) (by kernel_rfl) ?_ ?_
                  · intro ρ W hF; (try simp [FD] at hF); simp [Lets, *, undef]
                  refine csk (D := [(53, some 0), (50, some 3)]) (by kernel_rfl) ?_ ?_
                  · intro ρ W hF; (try simp [FD] at hF); simp [Lets, *, undef]
                  refine csk (D := [(52, some 2), (54, some 0), (50, some 4)]) (by kernel_rfl) ?_ ?_
                  · intro ρ W hF; (try simp [FD] at hF); simp [Lets, *, undef]
                  apply clq (D := [(50, some 5), (55, some 0), (48, some 7)]) (by kernel_rfl)
                  · intro ρ W hF; (try simp [FD] at hF); simp [Lets, *, undef]
                  · intro ρ W ⟨p1,p2,p3⟩ hG hF K hK; (try simp [FD] at hF); have ⟨hc, hf, hz⟩ := bdr hG; go_simp; exact hK _ gv
                  refine cdn ?_
                  intro vs W hG hV
                  obtain ⟨e12, -, -, -, -, -, -, -, e4, -⟩ := hV
                  simp only [Nat.reduceSub] at e4 e12
                  simp only [lay, Act.put, List.getElem?_toArray, List.getElem?_cons_succ, List.getElem?_cons_zero, Option.bind_some, List.setIfInBounds_toArray, List.set_cons_succ, List.set_cons_zero]
                  generalize vs 0 = v0, vs 1 = v1, vs 2 = v2, vs 3 = v3
                  generalize vs 4 = v4 at *
                  generalize vs 5 = v5, vs 6 = v6, vs 7 = v7, vs 8 = v8, vs 9 = v9, vs 10 = v10, vs 11 = v11
                  generalize vs 12 = v12 at *
                  subst e4
                  subst e12
                  obtain ⟨hc, hf, hz⟩ := bcell hG
                  have HG5 := Lib.hid (Gr.tr HG4.out hG)
                  have HBO5 := Lib.hid (HBO4.out.grow hG)
                  have HB5 := Lib.hid (HB3.out.grow hG)
                  have HX5 := Lib.hid (HX3.out.grow hG)
                  clear hc hf hz hG x0 x1 x2 x3 xl o0 o1 o2 o3 ol
                  have y0 := HX5.out.cell (i := 0) rfl
                  have y1 := HX5.out.cell (i := 1) rfl
                  have y2 := HX5.out.cell (i := 2) rfl
                  have y3 := HX5.out.cell (i := 3) rfl
                  have yl := HX5.out.lt
                  go_wp2_with (first | (with_reducible refine wsl (ty := 28) rfl ?_; unfold Stop; first | refine wlb row28 rfl (HB5.out) rfl rfl rfl ?_ | refine wlg row28 rfl (HB5.out) (Cd.whole k) rfl rfl rfl ?_))
                  refine (HH.out _ (TsA.lasts _ _ _ _ HT.out (Gr.tr HG2.out HG5.out)) (NumsAt.lasts _ _ _ _ HN2.out HG5.out)).mono ?_
                  rintro e_ w6 ⟨rfl, hb6⟩
                  have HG6 := Lib.hid (Gr.tr HG5.out hb6)
                  have HBO6 := Lib.hid (HBO5.out.grow hb6)
                  have HX6 := Lib.hid (HX5.out.grow hb6)
                  clear hb6 y0 y1 y2 y3 yl
                  cases hoc : k.okT ⟨A, B, D, A + B - D⟩ with
                  | false =>
                    rw [hoc] at hbb
                    subst hbb
                    have HNW := Lib.hid (HST.out.hurt hoc)
                    go_wp2
                    exact ⟨⟨D + 1, by omega, by omega, by go_num, out, false, rfl, HG6.out, HBO6.out, HNW.out⟩, by simp [intOf]; omega⟩
                  | true =>
                    rw [hoc] at hbb
                    subst hbb
                    have HNW := Lib.hid (HST.out.take hTc hoc (fun h => by cases h))
                    have y0 := HX6.out.cell (i := 0) rfl
                    have y1 := HX6.out.cell (i := 1) rfl
                    have y2 := HX6.out.cell (i := 2) rfl
                    have y3 := HX6.out.cell (i := 3) rfl
                    have yl := HX6.out.lt
                    have p0 := HBO6.out.cell (i := 0) rfl
                    have p1 := HBO6.out.cell (i := 1) rfl
                    have p2 := HBO6.out.cell (i := 2) rfl
                    have p3 := HBO6.out.cell (i := 3) rfl
                    have pf := HBO6.out.free
                    have pl := HBO6.out.lt
                    have HBO7 := Lib.hid ((((HBO6.out.put 0 (.int .i64 A)).put 1 (.int .i64 B)).put 2 (.int .i64 D)).put 3 (.int .i64 (A + B - D)))
                    have HG7 := Lib.hid (show Gr w2 ((((w6.setCell ⟨w2.heap.size, 0, none⟩ (.int .i64 A)).setCell ⟨w2.heap.size, 1, none⟩ (.int .i64 B)).setCell ⟨w2.heap.size, 2, none⟩ (.int .i64 D)).setCell ⟨w2.heap.size, 3, none⟩ (.int .i64 (A + B - D))) from ((((show Below w2.heap.size w2 w6 from HG6.out).setCell (Nat.le_refl _) _).setCell (Nat.le_refl _) _).setCell (Nat.le_refl _) _).setCell (Nat.le_refl _) _)
                    go_wp2
                    exact ⟨⟨D + 1, by omega, by omega, by go_num, ⟨A, B, D, A + B - D⟩, true, rfl, HG7.out, HBO7.out, HNW.out⟩, by simp [intOf]; omega⟩
                | true =>
                  have hoe := isT_ends (HST.out.yes rfl).1
                  obtain ⟨S1, hS1⟩ : ∃ s, A + B + D + (A + B - D) = s := ⟨_, rfl⟩
                  obtain ⟨S2, hS2⟩ : ∃ s, out.a + out.b + out.c + out.d = s := ⟨_, rfl⟩
                  have Q1 := Lib.hid (fun W => (show Calls Tryz.prog 34 #[.agg #[.int .i64 A, .int .i64 B, .int .i64 D, .int .i64 (A + B - D)]] W fun e w' => e = .returned (.int .i64 S1) ∧ Below W.heap.size W w' by have := rsum_any ⟨A, B, D, A + B - D⟩ W (by dsimp only; omega) (by dsimp only; omega) (by dsimp only; omega) (by dsimp only; omega); dsimp only at this; rwa [hS1] at this))
                  have Q2 := Lib.hid (fun W => (show Calls Tryz.prog 34 #[.agg #[.int .i64 out.a, .int .i64 out.b, .int .i64 out.c, .int .i64 out.d]] W fun e w' => e = .returned (.int .i64 S2) ∧ Below W.heap.size W w' by have := rsum_any out W (by omega) (by omega) (by omega) (by omega); rwa [hS2] at this))
                  have HS1 := Lib.hid hS1
                  have HS2 := Lib.hid hS2
                  clear hS1 hS2 hoe
                  by_cases hge : S2 ≤ S1
                  · have hge' : decide (S2 ≤ S1) = true := by simpa using hge
                    have HNW := Lib.hid (HST.out.more (by unfold Cu.sum; dsimp only; rw [HS1.out, HS2.out]; exact hge))
                    refine region2 13 ?_ ?_ ?_
                    · kernel_rfl
                    · kernel_rfl
                    simp only [List.take_succ_cons, List.take_zero, List.drop_succ_cons, List.drop_zero]
                    apply ceq (D := [(1, none)]) rfl (by kernel_rfl)
                    · intro ρ W ⟨p1,p2,p3⟩ hG hF K hK; (try simp [FD] at hF); rw [xlb row28 rfl (HB3.out.grow (Gr.tr (Gr.drew _) hG)) rfl hF]; exact hK _ gv
                    apply ceq (D := [(10, none)]) rfl (by kernel_rfl)
                    · intro ρ W ⟨p1,p2,p3⟩ hG hF K hK; (try simp [FD] at hF); have ⟨hc, hf, hz⟩ := bdr hG; go_simp; exact hK _ gv
                    apply ceq (D := [(44, some 1), (45, some 0)]) rfl (by kernel_rfl)
                    · intro ρ W ⟨p1,p2,p3⟩ hG hF K hK; (try simp [FD] at hF); have ⟨hc, hf, hz⟩ := bdr hG; go_simp; exact hK _ (gc (T1.out _))
                    apply ceq (D := [(46, some 0)]) rfl (by kernel_rfl)
                    · intro ρ W ⟨p1,p2,p3⟩ hG hF K hK; (try simp [FD] at hF); have ⟨hc, hf, hz⟩ := bdr hG; go_simp; exact hK _ gv
                    apply ceq (D := [(47, some 0)]) rfl (by kernel_rfl)
                    · intro ρ W ⟨p1,p2,p3⟩ hG hF K hK; (try simp [FD] at hF); have ⟨hc, hf, hz⟩ := bdr hG; go_simp; exact hK _ gv
                    apply clq (D := [(6, none), (48, some 0)]) (by kernel_rfl)
                    · intro ρ W hF; (try simp [FD] at hF); simp [Lets, *, undef]
                    · intro ρ W ⟨p1,p2,p3⟩ hG hF K hK; (try simp [FD] at hF); have ⟨hc, hf, hz⟩ := bdr hG; go_simp; exact hK _ gv
                    apply clq (D := [(49, some 0), (48, some 1)]) (by kernel_rfl)
                    · intro ρ W hF; (try simp [FD] at hF); simp [Lets, *, undef]
                    · intro ρ W ⟨p1,p2,p3⟩ hG hF K hK; (try simp [FD] at hF); have ⟨hc, hf, hz⟩ := bdr hG; go_simp; exact hK _ gv
                    apply clq (D := [(10, none), (50, some 0)]) (by kernel_rfl)
                    · intro ρ W hF; (try simp [FD] at hF); simp [Lets, *, undef]
                    · intro ρ W ⟨p1,p2,p3⟩ hG hF K hK; (try simp [FD] at hF); have ⟨hc, hf, hz⟩ := bdr hG; go_simp; exact hK _ gv
                    apply clq (D := [(51, some 0), (50, some 1)]) (by kernel_rfl)
                    · intro ρ W hF; (try simp [FD] at hF); simp [Lets, *, undef]
                    · intro ρ W ⟨p1,p2,p3⟩ hG hF K hK; (try simp [FD] at hF); have ⟨hc, hf, hz⟩ := bdr hG; go_simp; exact hK _ (gc (Q1.out _))
                    apply clq (D := [(5, none), (50, some 2)]) (by kernel_rfl)
                    · intro ρ W hF; (try simp [FD] at hF); simp [Lets, *, undef]
                    · intro ρ W ⟨p1,p2,p3⟩ hG hF K hK; (try simp [FD] at hF); have ⟨hc, hf, hz⟩ := bdr hG; go_simp; exact hK _ gv
                    apply clq (D := [(53, some 0), (50, some 3)]) (by kernel_rfl)
                    · intro ρ W hF; (try simp [FD] at hF); simp [Lets, *, undef]
                    · intro ρ W ⟨p1,p2,p3⟩ hG hF K hK; (try simp [FD] at hF); have ⟨hc, hf, hz⟩ := bdr hG; go_simp; exact hK _ (gc (Q2.out _))
                    apply clq (D := [(52, some 2), (54, some 0), (50, some 4)]) (by kernel_rfl)
                    · intro ρ W hF; (try simp [FD] at hF); simp [Lets, *, undef]
                    · intro ρ W ⟨p1,p2,p3⟩ hG hF K hK; (try simp [FD] at hF); have ⟨hc, hf, hz⟩ := bdr hG; go_simp; exact hK _ gv
                    apply clq (D := [(50, some 5), (55, some 0), (48, some 7)]) (by kernel_rfl)
                    · intro ρ W hF; (try simp [FD] at hF); simp [Lets, *, undef]
                    · intro ρ W ⟨p1,p2,p3⟩ hG hF K hK; (try simp [FD] at hF); have ⟨hc, hf, hz⟩ := bdr hG; go_simp; exact hK _ gv
                    refine cdn ?_
                    intro vs W hG hV
                    obtain ⟨e12, -, -, -, -, -, -, -, e4, -⟩ := hV
                    simp only [Nat.reduceSub] at e4 e12
                    simp only [lay, Act.put, List.getElem?_toArray, List.getElem?_cons_succ, List.getElem?_cons_zero, Option.bind_some, List.setIfInBounds_toArray, List.set_cons_succ, List.set_cons_zero]
                    generalize vs 0 = v0, vs 1 = v1, vs 2 = v2, vs 3 = v3
                    generalize vs 4 = v4 at *
                    generalize vs 5 = v5, vs 6 = v6, vs 7 = v7, vs 8 = v8, vs 9 = v9, vs 10 = v10, vs 11 = v11
                    generalize vs 12 = v12 at *
                    subst e4
                    subst e12
                    obtain ⟨hc, hf, hz⟩ := bcell hG
                    have HG5 := Lib.hid (Gr.tr HG4.out hG)
                    have HBO5 := Lib.hid (HBO4.out.grow hG)
                    have HB5 := Lib.hid (HB3.out.grow hG)
                    have HX5 := Lib.hid (HX3.out.grow hG)
                    clear hc hf hz hG x0 x1 x2 x3 xl o0 o1 o2 o3 ol
                    go_wp2
                    exact ⟨⟨D + 1, by omega, by omega, by go_num, out, true, rfl, HG5.out, HBO5.out, HNW.out⟩, by simp [intOf]; omega⟩
                  · have hge' : decide (S2 ≤ S1) = false := by simpa using hge
                    have HCC : Hid (((⟨A, B, D, A + B - D⟩ : Cu)).sum < out.sum) := Lib.hid <| by unfold Cu.sum; dsimp only; rw [HS1.out, HS2.out]; omega
                    refine region2 13 ?_ ?_ ?_
                    · kernel_rfl
                    · kernel_rfl
                    simp only [List.take_succ_cons, List.take_zero, List.drop_succ_cons, List.drop_zero]
                    apply ceq (D := [(1, none)]) rfl (by kernel_rfl)
                    · intro ρ W ⟨p1,p2,p3⟩ hG hF K hK; (try simp [FD] at hF); rw [xlb row28 rfl (HB3.out.grow (Gr.tr (Gr.drew _) hG)) rfl hF]; exact hK _ gv
                    apply ceq (D := [(10, none)]) rfl (by kernel_rfl)
                    · intro ρ W ⟨p1,p2,p3⟩ hG hF K hK; (try simp [FD] at hF); have ⟨hc, hf, hz⟩ := bdr hG; go_simp; exact hK _ gv
                    apply ceq (D := [(44, some 1), (45, some 0)]) rfl (by kernel_rfl)
                    · intro ρ W ⟨p1,p2,p3⟩ hG hF K hK; (try simp [FD] at hF); have ⟨hc, hf, hz⟩ := bdr hG; go_simp; exact hK _ (gc (T1.out _))
                    apply ceq (D := [(46, some 0)]) rfl (by kernel_rfl)
                    · intro ρ W ⟨p1,p2,p3⟩ hG hF K hK; (try simp [FD] at hF); have ⟨hc, hf, hz⟩ := bdr hG; go_simp; exact hK _ gv
                    apply ceq (D := [(47, some 0)]) rfl (by kernel_rfl)
                    · intro ρ W ⟨p1,p2,p3⟩ hG hF K hK; (try simp [FD] at hF); have ⟨hc, hf, hz⟩ := bdr hG; go_simp; exact hK _ gv
                    apply clq (D := [(6, none), (48, some 0)]) (by kernel_rfl)
                    · intro ρ W hF; (try simp [FD] at hF); simp [Lets, *, undef]
                    · intro ρ W ⟨p1,p2,p3⟩ hG hF K hK; (try simp [FD] at hF); have ⟨hc, hf, hz⟩ := bdr hG; go_simp; exact hK _ gv
                    apply clq (D := [(49, some 0), (48, some 1)]) (by kernel_rfl)
                    · intro ρ W hF; (try simp [FD] at hF); simp [Lets, *, undef]
                    · intro ρ W ⟨p1,p2,p3⟩ hG hF K hK; (try simp [FD] at hF); have ⟨hc, hf, hz⟩ := bdr hG; go_simp; exact hK _ gv
                    apply clq (D := [(10, none), (50, some 0)]) (by kernel_rfl)
                    · intro ρ W hF; (try simp [FD] at hF); simp [Lets, *, undef]
                    · intro ρ W ⟨p1,p2,p3⟩ hG hF K hK; (try simp [FD] at hF); have ⟨hc, hf, hz⟩ := bdr hG; go_simp; exact hK _ gv
                    apply clq (D := [(51, some 0), (50, some 1)]) (by kernel_rfl)
                    · intro ρ W hF; (try simp [FD] at hF); simp [Lets, *, undef]
                    · intro ρ W ⟨p1,p2,p3⟩ hG hF K hK; (try simp [FD] at hF); have ⟨hc, hf, hz⟩ := bdr hG; go_simp; exact hK _ (gc (Q1.out _))
                    apply clq (D := [(5, none), (50, some 2)]) (by kernel_rfl)
                    · intro ρ W hF; (try simp [FD] at hF); simp [Lets, *, undef]
                    · intro ρ W ⟨p1,p2,p3⟩ hG hF K hK; (try simp [FD] at hF); have ⟨hc, hf, hz⟩ := bdr hG; go_simp; exact hK _ gv
                    apply clq (D := [(53, some 0), (50, some 3)]) (by kernel_rfl)
                    · intro ρ W hF; (try simp [FD] at hF); simp [Lets, *, undef]
                    · intro ρ W ⟨p1,p2,p3⟩ hG hF K hK; (try simp [FD] at hF); have ⟨hc, hf, hz⟩ := bdr hG; go_simp; exact hK _ (gc (Q2.out _))
                    apply clq (D := [(52, some 2), (54, some 0), (50, some 4)]) (by kernel_rfl)
                    · intro ρ W hF; (try simp [FD] at hF); simp [Lets, *, undef]
                    · intro ρ W ⟨p1,p2,p3⟩ hG hF K hK; (try simp [FD] at hF); have ⟨hc, hf, hz⟩ := bdr hG; go_simp; exact hK _ gv
                    apply clq (D := [(50, some 5), (55, some 0), (48, some 7)]) (by kernel_rfl)
                    · intro ρ W hF; (try simp [FD] at hF); simp [Lets, *, undef]
                    · intro ρ W ⟨p1,p2,p3⟩ hG hF K hK; (try simp [FD] at hF); have ⟨hc, hf, hz⟩ := bdr hG; go_simp; exact hK _ gv
                    refine cdn ?_
                    intro vs W hG hV
                    obtain ⟨e12, -, -, -, -, -, -, -, e4, -⟩ := hV
                    simp only [Nat.reduceSub] at e4 e12
                    simp only [lay, Act.put, List.getElem?_toArray, List.getElem?_cons_succ, List.getElem?_cons_zero, Option.bind_some, List.setIfInBounds_toArray, List.set_cons_succ, List.set_cons_zero]
                    generalize vs 0 = v0, vs 1 = v1, vs 2 = v2, vs 3 = v3
                    generalize vs 4 = v4 at *
                    generalize vs 5 = v5, vs 6 = v6, vs 7 = v7, vs 8 = v8, vs 9 = v9, vs 10 = v10, vs 11 = v11
                    generalize vs 12 = v12 at *
                    subst e4
                    subst e12
                    obtain ⟨hc, hf, hz⟩ := bcell hG
                    have HG5 := Lib.hid (Gr.tr HG4.out hG)
                    have HBO5 := Lib.hid (HBO4.out.grow hG)
                    have HB5 := Lib.hid (HB3.out.grow hG)
                    have HX5 := Lib.hid (HX3.out.grow hG)
                    clear hc hf hz hG x0 x1 x2 x3 xl o0 o1 o2 o3 ol
                    have y0 := HX5.out.cell (i := 0) rfl
                    have y1 := HX5.out.cell (i := 1) rfl
                    have y2 := HX5.out.cell (i := 2) rfl
                    have y3 := HX5.out.cell (i := 3) rfl
                    have yl := HX5.out.lt
                    go_wp2_with (first | (with_reducible refine wsl (ty := 28) rfl ?_; unfold Stop; first | refine wlb row28 rfl (HB5.out) rfl rfl rfl ?_ | refine wlg row28 rfl (HB5.out) (Cd.whole k) rfl rfl rfl ?_))
                    refine (HH.out _ (TsA.lasts _ _ _ _ HT.out (Gr.tr HG2.out HG5.out)) (NumsAt.lasts _ _ _ _ HN2.out HG5.out)).mono ?_
                    rintro e_ w6 ⟨rfl, hb6⟩
                    have HG6 := Lib.hid (Gr.tr HG5.out hb6)
                    have HBO6 := Lib.hid (HBO5.out.grow hb6)
                    have HX6 := Lib.hid (HX5.out.grow hb6)
                    clear hb6 y0 y1 y2 y3 yl
                    cases hoc : k.okT ⟨A, B, D, A + B - D⟩ with
                    | false =>
                      rw [hoc] at hbb
                      subst hbb
                      have HNW := Lib.hid (HST.out.hurt hoc)
                      go_wp2
                      exact ⟨⟨D + 1, by omega, by omega, by go_num, out, true, rfl, HG6.out, HBO6.out, HNW.out⟩, by simp [intOf]; omega⟩
                    | true =>
                      rw [hoc] at hbb
                      subst hbb
                      have HNW := Lib.hid (HST.out.take hTc hoc (fun _ => HCC.out))
                      have y0 := HX6.out.cell (i := 0) rfl
                      have y1 := HX6.out.cell (i := 1) rfl
                      have y2 := HX6.out.cell (i := 2) rfl
                      have y3 := HX6.out.cell (i := 3) rfl
                      have yl := HX6.out.lt
                      have p0 := HBO6.out.cell (i := 0) rfl
                      have p1 := HBO6.out.cell (i := 1) rfl
                      have p2 := HBO6.out.cell (i := 2) rfl
                      have p3 := HBO6.out.cell (i := 3) rfl
                      have pf := HBO6.out.free
                      have pl := HBO6.out.lt
                      have HBO7 := Lib.hid ((((HBO6.out.put 0 (.int .i64 A)).put 1 (.int .i64 B)).put 2 (.int .i64 D)).put 3 (.int .i64 (A + B - D)))
                      have HG7 := Lib.hid (show Gr w2 ((((w6.setCell ⟨w2.heap.size, 0, none⟩ (.int .i64 A)).setCell ⟨w2.heap.size, 1, none⟩ (.int .i64 B)).setCell ⟨w2.heap.size, 2, none⟩ (.int .i64 D)).setCell ⟨w2.heap.size, 3, none⟩ (.int .i64 (A + B - D))) from ((((show Below w2.heap.size w2 w6 from HG6.out).setCell (Nat.le_refl _) _).setCell (Nat.le_refl _) _).setCell (Nat.le_refl _) _).setCell (Nat.le_refl _) _)
                      go_wp2
                      exact ⟨⟨D + 1, by omega, by omega, by go_num, ⟨A, B, D, A + B - D⟩, true, rfl, HG7.out, HBO7.out, HNW.out⟩, by simp [intOf]; omega⟩
            · have hDe : D = k.cuts + 1 := by omega
              have hltD' : decide (D ≤ k.cuts) = false := by simp; omega
              have HST2 := Lib.hid (show Bst k A (B + 1) 0 out fd by have := HST.out; rw [hDe] at this; exact this.row)
              go_wp2
              exact ⟨⟨B + 1, by omega, by omega, by go_num, out, fd, rfl, HG.out, HBO.out, HST2.out⟩, by simp [intOf]; omega⟩
        · have hBe : B = k.cuts + 1 := by omega
          have hltB' : decide (B ≤ k.cuts) = false := by simp; omega
          have HST2 := Lib.hid (show Bst k (A + 1) 0 0 out fd by have := HST.out; rw [hBe] at this; exact this.col)
          go_wp2
          exact ⟨⟨A + 1, by omega, by omega, by go_num, out, fd, rfl, HG.out, HBO.out, HST2.out⟩, by simp [intOf]; omega⟩
    · have hAe : A = k.cuts + 1 := by omega
      have hlt' : decide (A ≤ k.cuts) = false := by simp; omega
      have hend : (fd = true ∧ k.trim = some out) ∨ (fd = false ∧ out = ⟨0, 0, 0, 0⟩ ∧ k.trim = none) := Bst.last (by rw [hAe] at hbst; exact hbst)
      have hbt : fd = b ∧ out = t := by
        rcases htb.out with ⟨e1, e2⟩ | ⟨e1, e2, e3⟩ <;> rcases hend with ⟨g1, g2⟩ | ⟨g1, g2, g3⟩
        · rw [e2] at g2; exact ⟨by rw [e1, g1], (Option.some.inj g2).symm⟩
        · rw [e2] at g3; cases g3
        · rw [e3] at g2; cases g2
        · exact ⟨by rw [e1, g1], by rw [e2, g2]⟩
      obtain ⟨rfl, rfl⟩ := hbt
      have o0 := hbo.cell (i := 0) rfl
      have o1 := hbo.cell (i := 1) rfl
      have o2 := hbo.cell (i := 2) rfl
      have o3 := hbo.cell (i := 3) rfl
      have ol := hbo.lt
      have hz := HZ2.out.grow hg
      have z0 := hz.cell (i := 0) rfl
      have z1 := hz.cell (i := 1) rfl
      have z2 := hz.cell (i := 2) rfl
      have z3 := hz.cell (i := 3) rfl
      have zf := hz.free
      have zl := hz.lt
      have HGE := Lib.hid (Gr.tr HG2.out hg)
      clear hz hbo hg hbst hend
      go_wp2_with fail
      exact bodyPost_ret (v := .tuple #[.agg #[.int .i64 out.a, .int .i64 out.b, .int .i64 out.c, .int .i64 out.d], .bool fd]) (by simp [results, Tryz.results69, go_sem, z0, z1, z2, z3, zl, zf]) rfl ⟨rfl, ((((show Below w.heap.size w _ from HGE.out).setCell (show w.heap.size ≤ w.heap.size + 1 by omega) _).setCell (show w.heap.size ≤ w.heap.size + 1 by omega) _).setCell (show w.heap.size ≤ w.heap.size + 1 by omega) _).setCell (show w.heap.size ≤ w.heap.size + 1 by omega) _⟩
end Go.Proofs.YtcngaohfemdfjaaGreat
