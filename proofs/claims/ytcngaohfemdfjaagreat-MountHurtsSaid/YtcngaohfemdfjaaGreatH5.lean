import Derived.Test.YtcngaohfemdfjaaGreatH3
set_option linter.unusedVariables false
set_option linter.unusedSimpArgs false
set_option maxRecDepth 100000
set_option maxHeartbeats 60000000
namespace Go.Proofs.YtcngaohfemdfjaaGreat
open Go.RowKit
theorem reyes_err (k : Cd) (u : Cu) (w : World) (hT : TsA k.p.l (.slice k.sp k.p.l.length k.cap) w) (r : Int) (hr0 : (r != 0) = true) (he : Hid (k.err [u] = r)) :
    Calls Tryz.prog 19 #[.agg k.cs.toArray, .agg #[.int .i64 u.a, .int .i64 u.b, .int .i64 u.c, .int .i64 u.d]] w fun e w' => e = .returned (.tuple #[.agg #[.int .i64 0, .int .i64 0], .int .i64 r]) ∧ Below w.heap.size w w' := by
  have HG0 := Lib.hid (show Gr w (((w.alloc (Obj.cells k.cs.toArray 28)).alloc (Obj.cells #[.int .i64 u.a, .int .i64 u.b, .int .i64 u.c, .int .i64 u.d] 30)).alloc (Obj.cells #[.int .i64 0, .int .i64 0] 23)) from ((Gr.alloc _ _).tr (Gr.alloc _ _)).tr (Gr.alloc _ _))
  have TH := Lib.hid (fun (W : World) (hg : Gr (((w.alloc (Obj.cells k.cs.toArray 28)).alloc (Obj.cells #[.int .i64 u.a, .int .i64 u.b, .int .i64 u.c, .int .i64 u.d] 30)).alloc (Obj.cells #[.int .i64 0, .int .i64 0] 23)) W) => TsA.lasts k.p.l _ _ _ hT (HG0.out.tr hg))
  have HB0 := Lib.hid (show Box (((w.alloc (Obj.cells k.cs.toArray 28)).alloc (Obj.cells #[.int .i64 u.a, .int .i64 u.b, .int .i64 u.c, .int .i64 u.d] 30)).alloc (Obj.cells #[.int .i64 0, .int .i64 0] 23)) w.heap.size k.cs 28 from (Box.fresh w k.cs 28).grow ((Gr.alloc _ _).tr (Gr.alloc _ _)))
  have HU0 := Lib.hid (show Box (((w.alloc (Obj.cells k.cs.toArray 28)).alloc (Obj.cells #[.int .i64 u.a, .int .i64 u.b, .int .i64 u.c, .int .i64 u.d] 30)).alloc (Obj.cells #[.int .i64 0, .int .i64 0] 23)) (w.heap.size + 1) [.int .i64 u.a, .int .i64 u.b, .int .i64 u.c, .int .i64 u.d] 30 by simpa using (Box.fresh (w.alloc (Obj.cells k.cs.toArray 28)) [.int .i64 u.a, .int .i64 u.b, .int .i64 u.c, .int .i64 u.d] 30).grow (Gr.alloc _ (Obj.cells #[.int .i64 0, .int .i64 0] 23)))
  have HZ0 := Lib.hid (show Box (((w.alloc (Obj.cells k.cs.toArray 28)).alloc (Obj.cells #[.int .i64 u.a, .int .i64 u.b, .int .i64 u.c, .int .i64 u.d] 30)).alloc (Obj.cells #[.int .i64 0, .int .i64 0] 23)) (w.heap.size + 1 + 1) [.int .i64 0, .int .i64 0] 23 by simpa using Box.fresh ((w.alloc (Obj.cells k.cs.toArray 28)).alloc (Obj.cells #[.int .i64 u.a, .int .i64 u.b, .int .i64 u.c, .int .i64 u.d] 30)) [.int .i64 0, .int .i64 0] 23)
  have HC : Hid (∀ b, k.errb b = k.err [u] → ∀ W, TsA k.p.l (.slice k.sp k.p.l.length k.cap) W → Calls Tryz.prog 50 #[.agg k.cs.toArray, .bool b] W fun e w' => e = .returned (.int .i64 r) ∧ Below W.heap.size W w') := Lib.hid fun b hb W h => by
    have := rcheck_any k b W h
    rwa [hb, he.out] at this
  have HTR := Lib.hid (fun W => rtrim_rel k u W)
  clear hT
  have hl : k.cs.length = 17 := rfl
  go_enter Tryz.func19, Tryz.ntmps19
  go_upto_region 1 with fail
  generalize hV0 : (((w.alloc (Obj.cells k.cs.toArray 28)).alloc (Obj.cells #[.int .i64 u.a, .int .i64 u.b, .int .i64 u.c, .int .i64 u.d] 30)).alloc (Obj.cells #[.int .i64 0, .int .i64 0] 23)) = V0 at *
  clear hV0
  have uq0 := HU0.out.cell (i := 0) rfl
  have uq1 := HU0.out.cell (i := 1) rfl
  have uq2 := HU0.out.cell (i := 2) rfl
  have uq3 := HU0.out.cell (i := 3) rfl
  have uql := HU0.out.lt
  refine region2 5 ?_ ?_ ?_
  · kernel_rfl
  · kernel_rfl
  simp only [List.take_succ_cons, List.take_zero, List.drop_succ_cons, List.drop_zero]
  apply ceq (D := [(2, none)]) rfl (by kernel_rfl)
  · intro ρ W ⟨p1,p2,p3⟩ hG hF K hK; (try simp [FD] at hF); rw [xlb row28 rfl (HB0.out.grow (Gr.tr (Gr.drew _) hG)) rfl hF]; exact hK _ gv
  apply ceq (D := [(2, none)]) rfl (by kernel_rfl)
  · intro ρ W ⟨p1,p2,p3⟩ hG hF K hK; (try simp [FD] at hF); rw [xlb row28 rfl (HB0.out.grow (Gr.tr (Gr.drew _) hG)) rfl hF]; exact hK _ gv
  apply ceq (D := [(3, none)]) rfl (by kernel_rfl)
  · intro ρ W ⟨p1,p2,p3⟩ hG hF K hK; (try simp [FD] at hF); have ⟨hc, hf, hz⟩ := bdr hG; go_simp; exact hK _ gv
  refine cny (V := TrimV k u) (D := [(12, some 1), (13, some 0)]) rfl (by kernel_rfl) (TrimV.lasts _ _) ?_ ?_
  · intro ρ W ⟨p1,p2,p3⟩ hG hF K hK; (try simp [FD] at hF); have ⟨hc, hf, hz⟩ := bdr hG; go_simp; exact hK _ (gives_rel (HTR.out _))
  apply ceq (D := [(11, some 3), (14, some 0)]) rfl (by kernel_rfl)
  · intro ρ W ⟨p1,p2,p3⟩ hG hF K hK; (try simp [FD] at hF); have ⟨hc, hf, hz⟩ := bdr hG; obtain ⟨hF1, b, hv, hbe⟩ := hF; go_simp; exact hK _ (gc (HC.out b hbe _ (TH.out _ ((Gr.drew _).tr hG))))
  refine cdn ?_
  intro vs W hG hV
  obtain ⟨e4, -⟩ := hV
  simp only [Nat.reduceSub] at e4
  simp only [lay, Act.put, List.getElem?_toArray, List.getElem?_cons_succ, List.getElem?_cons_zero, Option.bind_some, List.setIfInBounds_toArray, List.set_cons_succ, List.set_cons_zero]
  generalize vs 0 = v0, vs 1 = v1, vs 2 = v2, vs 3 = v3
  generalize vs 4 = v4 at *
  subst e4
  obtain ⟨hc, hf, hz⟩ := bcell hG
  clear uq0 uq1 uq2 uq3 uql
  have HG1 := Lib.hid (HG0.out.tr hG)
  have HB1 := Lib.hid (HB0.out.grow hG)
  have HU1 := Lib.hid (HU0.out.grow hG)
  have HZ1 := Lib.hid (HZ0.out.grow hG)
  have TH1 := Lib.hid (fun (W' : World) (hg : Gr W W') => TH.out W' (Gr.tr hG hg))
  clear hc hf hz hG HB0 HU0 TH HC HTR
  clear HZ0
  rename World => W1
  have z0 := HZ1.out.cell (i := 0) rfl
  have z1 := HZ1.out.cell (i := 1) rfl
  have zf := HZ1.out.free
  have zl := HZ1.out.lt
  go_wp2_with fail
  exact bodyPost_ret (v := .tuple #[.agg #[.int .i64 0, .int .i64 0], .int .i64 r]) (by simp [results, Tryz.results19, go_sem, z0, z1, zl, zf]) rfl ⟨rfl, ((show Below w.heap.size w _ from HG1.out).setCell (show w.heap.size ≤ w.heap.size + 1 + 1 by omega) _).setCell (show w.heap.size ≤ w.heap.size + 1 + 1 by omega) _⟩
theorem reyes_ok (k : Cd) (u : Cu) (w : World) (hT : TsA k.p.l (.slice k.sp k.p.l.length k.cap) w) (r : Int) (sp : Option Addr) (hspe : k.sp = sp) (hr0 : r = 0) (hok : k.p.ok = true) (hk : k.okc = true) (hp : k.p.pw.1 ≤ k.p.pw.2) (hu : u.isT k.cuts = true) (c : Bool) (hcc : decide (((⟨k, 0, u⟩ : Tm).eyesTo (1, 10000) k.p.sees).2 < ((⟨k, 0, u⟩ : Tm).eyesTo (1, 10000) k.p.sees).1) = c) (x y z : Int) (hx : Hid (x = if c = true then 0 else ((⟨k, 0, u⟩ : Tm).eyesTo (1, 10000) k.p.sees).1)) (hy : Hid (y = if c = true then 0 else ((⟨k, 0, u⟩ : Tm).eyesTo (1, 10000) k.p.sees).2)) (hz : Hid (z = if c = true then 4 else 0)) (he : Hid (k.err [u] = r)) :
    Calls Tryz.prog 19 #[.agg k.cs.toArray, .agg #[.int .i64 u.a, .int .i64 u.b, .int .i64 u.c, .int .i64 u.d]] w fun e w' => e = .returned (.tuple #[.agg #[.int .i64 x, .int .i64 y], .int .i64 z]) ∧ Below w.heap.size w w' := by
  have htm := tm_ok (k := k) (mb := 0) (u := u) hk hu
  have hlen : k.p.l.length ≤ 12 := (k.p.bounds hok).len
  have hsl : k.p.sees.length ≤ 12 := Nat.le_trans (Pr.seesTo_len k.p _) hlen
  have HLN := Lib.hid hlen
  have HKY := Lib.hid (fun q (h : q ∈ k.p.sees) => Pr.seesTo_key h)
  have HS : Hid (∀ W, TsA k.p.l (.slice k.sp k.p.l.length k.cap) W → Calls Tryz.prog 51 #[.agg k.cs.toArray] W fun e w' => (∃ v, e = .returned v ∧ NumsAt (k.p.sees.map (·.1)) v w') ∧ Below W.heap.size W w') := Lib.hid fun W h => rseenThings_ok k _ rfl W h hok hp
  have HOFX := Lib.hid (fun (t : Th) (ht : t ∈ k.p.l) (W : World) => rof_any t.a t.b t.c t.d t.e t.f t.g t.h t.z W ((k.p.bounds hok).things t ht).1.1 ((k.p.bounds hok).things t ht).1.2.1 ((k.p.bounds hok).things t ht).1.2.2.2.2.1 ((k.p.bounds hok).things t ht).1.2.2.2.2.2.1)
  have HPL := Lib.hid (fun (t : Th) (ht : t ∈ k.p.l) => ((k.p.bounds hok).things t ht).1)
  have HAP := Lib.hid (fun (s : Int) (hs : -8000 ≤ s ∧ s ≤ 8000) (W : World) => rapart_ok k u htm s hs W)
  have HDI := Lib.hid (fun (s : Int) (hs : -8000 ≤ s ∧ s ≤ 8000) => htm.dist (s := s) hs)
  have b9 := htm.prism
  have b10 := htm.squeeze
  dsimp only at b9 b10
  obtain ⟨b9, b9'⟩ := b9
  obtain ⟨b10, b10'⟩ := b10
  have hvw : ∀ q ∈ k.p.sees, ∀ i : Nat, k.p.view i = some q.2 → ∃ x, k.p.l[i]? = some x ∧ q.2.sa = x.a - x.f ∧ q.2.sb = x.b - x.e := fun q hq i hv => by
    cases hx : k.p.l[i]? with
    | none =>
      have : k.p.view i = none := by unfold Pr.view; rw [hx]
      rw [this] at hv; cases hv
    | some x =>
      rw [Pr.view_of' hx] at hv
      refine ⟨x, rfl, ?_⟩
      split at hv
      · rw [← Option.some.inj hv]; exact ⟨rfl, rfl⟩
      · cases hv
  have HVW := Lib.hid hvw
  have he := Lib.hid (he.out.trans hr0)
  have hmx : ∀ (x y : Int), (if x < y then y else x) = imax x y := fun _ _ => rfl
  have hmn : ∀ (x y : Int), (if y < x then y else x) = imin x y := fun _ _ => rfl
  have HTT := Lib.hid (show TsA k.p.l (.slice sp k.p.l.length k.cap) w by rw [← hspe]; exact hT)
  clear hvw htm
  have HG0 := Lib.hid (show Gr w (((w.alloc (Obj.cells k.cs.toArray 28)).alloc (Obj.cells #[.int .i64 u.a, .int .i64 u.b, .int .i64 u.c, .int .i64 u.d] 30)).alloc (Obj.cells #[.int .i64 0, .int .i64 0] 23)) from ((Gr.alloc _ _).tr (Gr.alloc _ _)).tr (Gr.alloc _ _))
  have TH := Lib.hid (fun (W : World) (hg : Gr (((w.alloc (Obj.cells k.cs.toArray 28)).alloc (Obj.cells #[.int .i64 u.a, .int .i64 u.b, .int .i64 u.c, .int .i64 u.d] 30)).alloc (Obj.cells #[.int .i64 0, .int .i64 0] 23)) W) => TsA.lasts k.p.l _ _ _ hT (HG0.out.tr hg))
  have HB0 := Lib.hid (show Box (((w.alloc (Obj.cells k.cs.toArray 28)).alloc (Obj.cells #[.int .i64 u.a, .int .i64 u.b, .int .i64 u.c, .int .i64 u.d] 30)).alloc (Obj.cells #[.int .i64 0, .int .i64 0] 23)) w.heap.size k.cs 28 from (Box.fresh w k.cs 28).grow ((Gr.alloc _ _).tr (Gr.alloc _ _)))
  have HU0 := Lib.hid (show Box (((w.alloc (Obj.cells k.cs.toArray 28)).alloc (Obj.cells #[.int .i64 u.a, .int .i64 u.b, .int .i64 u.c, .int .i64 u.d] 30)).alloc (Obj.cells #[.int .i64 0, .int .i64 0] 23)) (w.heap.size + 1) [.int .i64 u.a, .int .i64 u.b, .int .i64 u.c, .int .i64 u.d] 30 by simpa using (Box.fresh (w.alloc (Obj.cells k.cs.toArray 28)) [.int .i64 u.a, .int .i64 u.b, .int .i64 u.c, .int .i64 u.d] 30).grow (Gr.alloc _ (Obj.cells #[.int .i64 0, .int .i64 0] 23)))
  have HZ0 := Lib.hid (show Box (((w.alloc (Obj.cells k.cs.toArray 28)).alloc (Obj.cells #[.int .i64 u.a, .int .i64 u.b, .int .i64 u.c, .int .i64 u.d] 30)).alloc (Obj.cells #[.int .i64 0, .int .i64 0] 23)) (w.heap.size + 1 + 1) [.int .i64 0, .int .i64 0] 23 by simpa using Box.fresh ((w.alloc (Obj.cells k.cs.toArray 28)).alloc (Obj.cells #[.int .i64 u.a, .int .i64 u.b, .int .i64 u.c, .int .i64 u.d] 30)) [.int .i64 0, .int .i64 0] 23)
  have HC : Hid (∀ b, k.errb b = k.err [u] → ∀ W, TsA k.p.l (.slice k.sp k.p.l.length k.cap) W → Calls Tryz.prog 50 #[.agg k.cs.toArray, .bool b] W fun e w' => e = .returned (.int .i64 0) ∧ Below W.heap.size W w') := Lib.hid fun b hb W h => by
    have := rcheck_any k b W h
    rwa [hb, he.out] at this
  have HTR := Lib.hid (fun W => rtrim_rel k u W)
  clear hT
  have hl : k.cs.length = 17 := rfl
  go_enter Tryz.func19, Tryz.ntmps19
  go_upto_region 1 with fail
  generalize hV0 : (((w.alloc (Obj.cells k.cs.toArray 28)).alloc (Obj.cells #[.int .i64 u.a, .int .i64 u.b, .int .i64 u.c, .int .i64 u.d] 30)).alloc (Obj.cells #[.int .i64 0, .int .i64 0] 23)) = V0 at *
  clear hV0
  have uq0 := HU0.out.cell (i := 0) rfl
  have uq1 := HU0.out.cell (i := 1) rfl
  have uq2 := HU0.out.cell (i := 2) rfl
  have uq3 := HU0.out.cell (i := 3) rfl
  have uql := HU0.out.lt
  refine region2 5 ?_ ?_ ?_
  · kernel_rfl
  · kernel_rfl
  simp only [List.take_succ_cons, List.take_zero, List.drop_succ_cons, List.drop_zero]
  apply ceq (D := [(2, none)]) rfl (by kernel_rfl)
  · intro ρ W ⟨p1,p2,p3⟩ hG hF K hK; (try simp [FD] at hF); rw [xlb row28 rfl (HB0.out.grow (Gr.tr (Gr.drew _) hG)) rfl hF]; exact hK _ gv
  apply ceq (D := [(2, none)]) rfl (by kernel_rfl)
  · intro ρ W ⟨p1,p2,p3⟩ hG hF K hK; (try simp [FD] at hF); rw [xlb row28 rfl (HB0.out.grow (Gr.tr (Gr.drew _) hG)) rfl hF]; exact hK _ gv
  apply ceq (D := [(3, none)]) rfl (by kernel_rfl)
  · intro ρ W ⟨p1,p2,p3⟩ hG hF K hK; (try simp [FD] at hF); have ⟨hc, hf, hz⟩ := bdr hG; go_simp; exact hK _ gv
  refine cny (V := TrimV k u) (D := [(12, some 1), (13, some 0)]) rfl (by kernel_rfl) (TrimV.lasts _ _) ?_ ?_
  · intro ρ W ⟨p1,p2,p3⟩ hG hF K hK; (try simp [FD] at hF); have ⟨hc, hf, hz⟩ := bdr hG; go_simp; exact hK _ (gives_rel (HTR.out _))
  apply ceq (D := [(11, some 3), (14, some 0)]) rfl (by kernel_rfl)
  · intro ρ W ⟨p1,p2,p3⟩ hG hF K hK; (try simp [FD] at hF); have ⟨hc, hf, hz⟩ := bdr hG; obtain ⟨hF1, b, hv, hbe⟩ := hF; go_simp; exact hK _ (gc (HC.out b hbe _ (TH.out _ ((Gr.drew _).tr hG))))
  refine cdn ?_
  intro vs W hG hV
  obtain ⟨e4, -⟩ := hV
  simp only [Nat.reduceSub] at e4
  simp only [lay, Act.put, List.getElem?_toArray, List.getElem?_cons_succ, List.getElem?_cons_zero, Option.bind_some, List.setIfInBounds_toArray, List.set_cons_succ, List.set_cons_zero]
  generalize vs 0 = v0, vs 1 = v1, vs 2 = v2, vs 3 = v3
  generalize vs 4 = v4 at *
  subst e4
  obtain ⟨hc, hf, hz⟩ := bcell hG
  clear uq0 uq1 uq2 uq3 uql
  have HG1 := Lib.hid (HG0.out.tr hG)
  have HB1 := Lib.hid (HB0.out.grow hG)
  have HU1 := Lib.hid (HU0.out.grow hG)
  have HZ1 := Lib.hid (HZ0.out.grow hG)
  have TH1 := Lib.hid (fun (W' : World) (hg : Gr W W') => TH.out W' (Gr.tr hG hg))
  clear hf hG HB0 HU0 TH HC HTR
  clear HZ0
  rename World => W1
  go_wp2_with (first | (with_reducible refine wsl (ty := 28) rfl ?_; unfold Stop; first | refine wlb row28 rfl (HB1.out) rfl rfl rfl ?_ | refine wlg row28 rfl (HB1.out) (Cd.whole k) rfl rfl rfl ?_))
  refine (HS.out _ (TH1.out _ (Gr.same _))).mono ?_
  rintro e w2 ⟨⟨v, rfl, hN⟩, hb2⟩
  have HG2 := Lib.hid (HG1.out.tr hb2)
  have HB2 := Lib.hid (HB1.out.grow hb2)
  have HU2 := Lib.hid (HU1.out.grow hb2)
  have HZ2 := Lib.hid (HZ1.out.grow hb2)
  obtain ⟨np, nc, rfl, -, hcell⟩ := hN.cells
  have HCE := Lib.hid hcell
  have HTT2 := Lib.hid (TsA.lasts _ _ _ _ HTT.out HG2.out)
  clear hcell hN hb2 HB1 HU1 HZ1 HG1 TH1 HTT
  rw [List.length_map]
  generalize hes : k.p.sees = es at *
  obtain ⟨L, hL⟩ : ∃ L, es.length = L := ⟨_, rfl⟩
  rw [hL] at hsl ⊢
  go_wp2_with fail
  go_loopw [9] (fun i wr => ∃ j : Nat, j ≤ L ∧ i = .int .i64 j ∧ Gr w2 wr ∧ Box wr w2.heap.size [.int .i64 ((⟨k, 0, u⟩ : Tm).eyesTo (1, 10000) (es.take j)).1, .int .i64 ((⟨k, 0, u⟩ : Tm).eyesTo (1, 10000) (es.take j)).2] 23) (fun i _ => L - (intOf i).toNat)
  case atStart => exact ⟨0, Nat.zero_le _, rfl, Gr.alloc _ _, Box.fresh w2 [.int .i64 1, .int .i64 10000] 23⟩
  case round =>
    obtain ⟨j, hj, rfl, hg, hbo⟩ := hrel
    have HG := Lib.hid hg
    have HBO := Lib.hid hbo
    have HBR := Lib.hid (HB2.out.grow hg)
    have HUR := Lib.hid (HU2.out.grow hg)
    have HZR := Lib.hid (HZ2.out.grow hg)
    have hwz : w.heap.size + 1 + 1 < w2.heap.size := HZ2.out.lt
    clear hg hbo
    by_cases hlt : j < L
    · obtain ⟨q, hq⟩ : ∃ q, es[j]? = some q := ⟨es[j]'(by omega), List.getElem?_eq_getElem _⟩
      have hqm := List.mem_of_getElem? hq
      obtain ⟨m, hm1, hm2, hm3⟩ := HKY.out q hqm
      obtain ⟨t, ht, hsa, hsb⟩ := HVW.out q hqm m hm3
      obtain ⟨b, o, rfl, hb, hcw⟩ := HCE.out j q.1 (by rw [List.getElem?_map, hq]; rfl)
      rw [hm2] at hcw
      have hcw2 : wr.cell? ⟨b, o + j, none⟩ = some (.int .i64 (m : Int)) := ((bcell HG.out).1 _ _ hb).trans hcw
      have hbw : b < wr.heap.size := (bcell HG.out).2.2 _ hb
      obtain ⟨-, h3 | ⟨tb, tof, cp, hsp, hbl, hcs⟩⟩ := TsA.lasts _ _ _ _ HTT2.out HG.out
      · have := h3.1; rw [this] at ht; cases ht
      have hsp1 : sp = some ⟨tb, tof, none⟩ := by simp at hsp; exact hsp.1
      subst hsp1
      have X := CsF.nine (hcs m t ht)
      have HOF := Lib.hid (HOFX.out t (List.mem_of_getElem? ht))
      obtain ⟨⟨ba, ba'⟩, ⟨bb, bb'⟩, -, -, ⟨be, be'⟩, ⟨bf, bf'⟩, -, -⟩ := HPL.out t (List.mem_of_getElem? ht)
      have HA1 := Lib.hid (HAP.out (t.a - t.f) (by omega))
      have HA2 := Lib.hid (HAP.out (t.b - t.e) (by omega))
      obtain ⟨d1, d1'⟩ := HDI.out (t.a - t.f) (by omega)
      obtain ⟨d2, d2'⟩ := HDI.out (t.b - t.e) (by omega)
      have hst : es.take (j + 1) = es.take j ++ [q] := by rw [List.take_add_one, hq]; rfl
      have HST := Lib.hid (show (⟨k, 0, u⟩ : Tm).eyesTo (1, 10000) (es.take (j + 1)) = (imax ((⟨k, 0, u⟩ : Tm).eyesTo (1, 10000) (es.take j)).1 ((⟨k, 0, u⟩ : Tm).dist (t.a - t.f) - k.prism), imin ((⟨k, 0, u⟩ : Tm).eyesTo (1, 10000) (es.take j)).2 ((⟨k, 0, u⟩ : Tm).dist (t.b - t.e) + k.squeeze)) by rw [hst, Tm.eyesTo_snoc, hsa, hsb])
      obtain ⟨ta, tbb, tc, td, te, tf, tg, th, tz⟩ := t
      simp only at X HOF HA1 HA2 HST d1 d1' d2 d2' ba ba' bb bb' be be' bf bf'
      have hml : m < k.p.l.length := hm1
      have h12 := HLN.out
      generalize (⟨k, 0, u⟩ : Tm).dist (ta - tf) = D1 at *
      generalize (⟨k, 0, u⟩ : Tm).dist (tbb - te) = D2 at *
      generalize ((⟨k, 0, u⟩ : Tm).eyesTo (1, 10000) (es.take j)).1 = A1 at *
      generalize ((⟨k, 0, u⟩ : Tm).eyesTo (1, 10000) (es.take j)).2 = A2 at *
      have c7 := HBR.out.cell (i := 7) rfl
      have cl := HBR.out.lt
      clear hcw hst hm2 hm3 hq hqm ht hsa hsb hsp hcs
      go_upto_region 9 with fail
      refine regionB 11 ?_ ?_ ?_
      · kernel_rfl
      · kernel_rfl
      simp only [List.take_succ_cons, List.take_zero, List.drop_succ_cons, List.drop_zero]
      apply cbe (D := [(2, none)]) rfl (by kernel_rfl)
      · intro ρ W ⟨p1,p2,p3⟩ hG hF K hK; (try simp [FD, exB] at hF); have ⟨hc, hf, hz⟩ := bdr hG; go_simp; exact hK _ gv
      apply cbe (D := [(29, some 0)]) rfl (by kernel_rfl)
      · intro ρ W ⟨p1,p2,p3⟩ hG hF K hK; (try simp [FD, exB] at hF); have ⟨hc, hf, hz⟩ := bdr hG; go_simp; exact hK _ gv
      apply cbe (D := [(30, some 0)]) rfl (by kernel_rfl)
      · intro ρ W ⟨p1,p2,p3⟩ hG hF K hK; (try simp [FD, exB] at hF); have ⟨hc, hf, hz⟩ := bdr hG; go_simp; exact hK _ gv
      apply cbe (D := [(7, none)]) rfl (by kernel_rfl)
      · intro ρ W ⟨p1,p2,p3⟩ hG hF K hK; (try simp [FD, exB] at hF); have ⟨hc, hf, hz⟩ := bdr hG; go_simp; exact hK _ gv
      apply cbe (D := [(9, none)]) rfl (by kernel_rfl)
      · intro ρ W ⟨p1,p2,p3⟩ hG hF K hK; (try simp [FD, exB] at hF); have ⟨hc, hf, hz⟩ := bdr hG; go_simp; exact hK _ gv
      apply cbe (D := [(32, some 1), (33, some 0)]) rfl (by kernel_rfl)
      · intro ρ W ⟨p1,p2,p3⟩ hG hF K hK; (try simp [FD, exB] at hF); have ⟨hc, hf, hz⟩ := bdr hG; go_simp; exact hK _ gv
      apply cbe (D := [(34, some 0)]) rfl (by kernel_rfl)
      · intro ρ W ⟨p1,p2,p3⟩ hG hF K hK; (try simp [FD, exB] at hF); have ⟨hc, hf, hz⟩ := bdr hG; go_simp; exact hK _ gv
      apply cbe (D := [(31, some 4), (35, some 0)]) rfl (by kernel_rfl)
      · intro ρ W ⟨p1,p2,p3⟩ hG hF K hK; (try simp [FD, exB] at hF); have ⟨hc, hf, hz⟩ := bdr hG; go_simp; exact hK _ gv
      apply cbe (D := [(36, some 0)]) rfl (by kernel_rfl)
      · intro ρ W ⟨p1,p2,p3⟩ hG hF K hK; (try simp [FD, exB] at hF); have ⟨hc, hf, hz⟩ := bdr hG; go_simp; exact hK _ gv
      apply cbe (D := [(37, some 0)]) rfl (by kernel_rfl)
      · intro ρ W ⟨p1,p2,p3⟩ hG hF K hK; (try simp [FD, exB] at hF); have ⟨hc, hf, hz⟩ := bdr hG; go_simp; exact hK _ (gc (HOF.out _))
      refine chainB_any (V := fun p v W' => NewB [.int .i64 0, .int .i64 0] 23 p v W' ∧ wr.heap.size ≤ p.1) (D := []) rfl (by kernel_rfl) (fun p v A B h hg => ⟨NewB.lasts _ _ p v A B h.1 hg, h.2⟩) ?_ ?_
      · intro ρ W ⟨p1,p2,p3⟩ hG hF K hK; (try simp [FD, exB] at hF); have ⟨hc, hf, hz⟩ := bdr hG; go_simp; exact hK _ (⟨⟨NewB.new _ _ _, by have := hG.size; simpa using this⟩, Gr.alloc _ _⟩)
      refine chainB_done ?_
      intro vs bs W hG hV hdj
      obtain ⟨e10, e9, -⟩ := hV
      simp only [Nat.reduceSub] at e9 e10
      clear hdj
      simp only [lay, Act.put, List.getElem?_toArray, List.getElem?_cons_succ, List.getElem?_cons_zero, Option.bind_some, List.setIfInBounds_toArray, List.set_cons_succ, List.set_cons_zero]
      generalize vs 0 = v0, vs 1 = v1, vs 2 = v2, vs 3 = v3, vs 4 = v4, vs 5 = v5, vs 6 = v6, vs 7 = v7, vs 8 = v8
      generalize vs 9 = v9 at *
      generalize vs 10 = v10 at *
      subst e9
      obtain ⟨hc, hf, hz⟩ := bcell hG
      obtain ⟨⟨bt, rfl, hbt, hbt', hBt⟩, hbtn⟩ := e10
      obtain ⟨y0_, y1_, yf0, yf1, yl⟩ := hBt.two
      have hbt2 : wr.heap.size ≤ bt := by omega
      have hbol := HBO.out.lt
      have HXT := Lib.hid (show Box ((W.setCell ⟨bt, 0, none⟩ (.int .i64 (ta - tf))).setCell ⟨bt, 1, none⟩ (.int .i64 (tbb - te))) bt [.int .i64 (ta - tf), .int .i64 (tbb - te)] 23 from (hBt.put 0 (.int .i64 (ta - tf))).put 1 (.int .i64 (tbb - te)))
      have HGX := Lib.hid (show Gr wr ((W.setCell ⟨bt, 0, none⟩ (.int .i64 (ta - tf))).setCell ⟨bt, 1, none⟩ (.int .i64 (tbb - te))) from ((show Below wr.heap.size wr W from hG).setCell hbt2 _).setCell hbt2 _)
      clear hBt hbt' hG hcw2 X
      go_upto_region 10 with fail
      clear y0_ y1_ yf0 yf1 yl hc hf
      generalize ((W.setCell ⟨bt, 0, none⟩ (.int .i64 (ta - tf))).setCell ⟨bt, 1, none⟩ (.int .i64 (tbb - te))) = W3 at *
      have HB3 := Lib.hid (HBR.out.grow HGX.out)
      have HU3 := Lib.hid (HUR.out.grow HGX.out)
      have HBO3 := Lib.hid (HBO.out.grow HGX.out)
      have c13 := HB3.out.cell (i := 13) rfl
      have c14 := HB3.out.cell (i := 14) rfl
      have c3l := HB3.out.lt
      have uq0 := HU3.out.cell (i := 0) rfl
      have uq1 := HU3.out.cell (i := 1) rfl
      have uq2 := HU3.out.cell (i := 2) rfl
      have uq3 := HU3.out.cell (i := 3) rfl
      have uql := HU3.out.lt
      have s0 := HXT.out.cell (i := 0) rfl
      have s1 := HXT.out.cell (i := 1) rfl
      have sl := HXT.out.lt
      have o0 := HBO3.out.cell (i := 0) rfl
      have o1 := HBO3.out.cell (i := 1) rfl
      have ol := HBO3.out.lt
      clear c7 cl
      refine region2 23 ?_ ?_ ?_
      · kernel_rfl
      · kernel_rfl
      simp only [List.take_succ_cons, List.take_zero, List.drop_succ_cons, List.drop_zero]
      apply ceq (D := [(8, none)]) rfl (by kernel_rfl)
      · intro ρ W ⟨p1,p2,p3⟩ hG hF K hK; (try simp [FD] at hF); have ⟨hc, hf, hz⟩ := bdr hG; go_simp; exact hK _ gv
      apply ceq (D := [(39, some 0)]) rfl (by kernel_rfl)
      · intro ρ W ⟨p1,p2,p3⟩ hG hF K hK; (try simp [FD] at hF); have ⟨hc, hf, hz⟩ := bdr hG; go_simp; exact hK _ gv
      apply ceq (D := [(2, none)]) rfl (by kernel_rfl)
      · intro ρ W ⟨p1,p2,p3⟩ hG hF K hK; (try simp [FD] at hF); rw [xlb row28 rfl (HB3.out.grow (Gr.tr (Gr.drew _) hG)) rfl hF]; exact hK _ gv
      apply ceq (D := [(3, none)]) rfl (by kernel_rfl)
      · intro ρ W ⟨p1,p2,p3⟩ hG hF K hK; (try simp [FD] at hF); have ⟨hc, hf, hz⟩ := bdr hG; go_simp; exact hK _ gv
      apply ceq (D := [(10, none)]) rfl (by kernel_rfl)
      · intro ρ W ⟨p1,p2,p3⟩ hG hF K hK; (try simp [FD] at hF); have ⟨hc, hf, hz⟩ := bdr hG; go_simp; exact hK _ gv
      apply ceq (D := [(43, some 0)]) rfl (by kernel_rfl)
      · intro ρ W ⟨p1,p2,p3⟩ hG hF K hK; (try simp [FD] at hF); have ⟨hc, hf, hz⟩ := bdr hG; go_simp; exact hK _ gv
      apply ceq (D := [(41, some 3), (42, some 2), (44, some 0)]) rfl (by kernel_rfl)
      · intro ρ W ⟨p1,p2,p3⟩ hG hF K hK; (try simp [FD] at hF); have ⟨hc, hf, hz⟩ := bdr hG; go_simp; exact hK _ (gc (HA1.out _))
      apply ceq (D := [(2, none)]) rfl (by kernel_rfl)
      · intro ρ W ⟨p1,p2,p3⟩ hG hF K hK; (try simp [FD] at hF); have ⟨hc, hf, hz⟩ := bdr hG; go_simp; exact hK _ gv
      apply ceq (D := [(46, some 0)]) rfl (by kernel_rfl)
      · intro ρ W ⟨p1,p2,p3⟩ hG hF K hK; (try simp [FD] at hF); have ⟨hc, hf, hz⟩ := bdr hG; go_simp; exact hK _ gv
      apply ceq (D := [(45, some 2), (47, some 0)]) rfl (by kernel_rfl)
      · intro ρ W ⟨p1,p2,p3⟩ hG hF K hK; (try simp [FD] at hF); have ⟨hc, hf, hz⟩ := bdr hG; go_simp; exact hK _ gv
      apply ceq (D := [(40, some 8), (48, some 0)]) rfl (by kernel_rfl)
      · intro ρ W ⟨p1,p2,p3⟩ hG hF K hK; (try simp [FD] at hF); have ⟨hc, hf, hz⟩ := bdr hG; go_simp; exact hK _ gv
      apply ceq (D := [(8, none)]) rfl (by kernel_rfl)
      · intro ρ W ⟨p1,p2,p3⟩ hG hF K hK; (try simp [FD] at hF); have ⟨hc, hf, hz⟩ := bdr hG; go_simp; exact hK _ gv
      apply ceq (D := [(50, some 0)]) rfl (by kernel_rfl)
      · intro ρ W ⟨p1,p2,p3⟩ hG hF K hK; (try simp [FD] at hF); have ⟨hc, hf, hz⟩ := bdr hG; go_simp; exact hK _ gv
      apply ceq (D := [(2, none)]) rfl (by kernel_rfl)
      · intro ρ W ⟨p1,p2,p3⟩ hG hF K hK; (try simp [FD] at hF); rw [xlb row28 rfl (HB3.out.grow (Gr.tr (Gr.drew _) hG)) rfl hF]; exact hK _ gv
      apply ceq (D := [(3, none)]) rfl (by kernel_rfl)
      · intro ρ W ⟨p1,p2,p3⟩ hG hF K hK; (try simp [FD] at hF); have ⟨hc, hf, hz⟩ := bdr hG; go_simp; exact hK _ gv
      apply ceq (D := [(10, none)]) rfl (by kernel_rfl)
      · intro ρ W ⟨p1,p2,p3⟩ hG hF K hK; (try simp [FD] at hF); have ⟨hc, hf, hz⟩ := bdr hG; go_simp; exact hK _ gv
      apply ceq (D := [(54, some 0)]) rfl (by kernel_rfl)
      · intro ρ W ⟨p1,p2,p3⟩ hG hF K hK; (try simp [FD] at hF); have ⟨hc, hf, hz⟩ := bdr hG; go_simp; exact hK _ gv
      apply ceq (D := [(52, some 3), (53, some 2), (55, some 0)]) rfl (by kernel_rfl)
      · intro ρ W ⟨p1,p2,p3⟩ hG hF K hK; (try simp [FD] at hF); have ⟨hc, hf, hz⟩ := bdr hG; go_simp; exact hK _ (gc (HA2.out _))
      apply ceq (D := [(2, none)]) rfl (by kernel_rfl)
      · intro ρ W ⟨p1,p2,p3⟩ hG hF K hK; (try simp [FD] at hF); have ⟨hc, hf, hz⟩ := bdr hG; go_simp; exact hK _ gv
      apply ceq (D := [(57, some 0)]) rfl (by kernel_rfl)
      · intro ρ W ⟨p1,p2,p3⟩ hG hF K hK; (try simp [FD] at hF); have ⟨hc, hf, hz⟩ := bdr hG; go_simp; exact hK _ gv
      apply ceq (D := [(56, some 2), (58, some 0)]) rfl (by kernel_rfl)
      · intro ρ W ⟨p1,p2,p3⟩ hG hF K hK; (try simp [FD] at hF); have ⟨hc, hf, hz⟩ := bdr hG; go_simp; exact hK _ gv
      apply ceq (D := [(51, some 8), (59, some 0)]) rfl (by kernel_rfl)
      · intro ρ W ⟨p1,p2,p3⟩ hG hF K hK; (try simp [FD] at hF); have ⟨hc, hf, hz⟩ := bdr hG; go_simp; exact hK _ gv
      apply ceq (D := [(49, some 11), (60, some 0)]) rfl (by kernel_rfl)
      · intro ρ W ⟨p1,p2,p3⟩ hG hF K hK; (try simp [FD] at hF); have ⟨hc, hf, hz⟩ := bdr hG; go_simp; exact hK _ gv
      refine cdn ?_
      intro vs W hG hV
      obtain ⟨e22, -⟩ := hV
      simp only [Nat.reduceSub] at e22
      simp only [lay, Act.put, List.getElem?_toArray, List.getElem?_cons_succ, List.getElem?_cons_zero, Option.bind_some, List.setIfInBounds_toArray, List.set_cons_succ, List.set_cons_zero]
      generalize vs 0 = v0, vs 1 = v1, vs 2 = v2, vs 3 = v3, vs 4 = v4, vs 5 = v5, vs 6 = v6, vs 7 = v7, vs 8 = v8, vs 9 = v9, vs 10 = v10, vs 11 = v11, vs 12 = v12, vs 13 = v13, vs 14 = v14, vs 15 = v15, vs 16 = v16, vs 17 = v17, vs 18 = v18, vs 19 = v19, vs 20 = v20, vs 21 = v21
      generalize vs 22 = v22 at *
      subst e22
      obtain ⟨hc, hf, hz⟩ := bcell hG
      have oo := HBO3.out.grow hG
      have oc0 := oo.cell (i := 0) rfl
      have oc1 := oo.cell (i := 1) rfl
      have of' := oo.free
      have oll := oo.lt
      have HBN := Lib.hid ((oo.put 0 (.int .i64 (imax A1 (D1 - k.prism)))).put 1 (.int .i64 (imin A2 (D2 + k.squeeze))))
      have HGN := Lib.hid (show Gr w2 ((W.setCell ⟨w2.heap.size, 0, none⟩ (.int .i64 (imax A1 (D1 - k.prism)))).setCell ⟨w2.heap.size, 1, none⟩ (.int .i64 (imin A2 (D2 + k.squeeze)))) from ((show Below w2.heap.size w2 W from Gr.tr (Gr.tr HG.out HGX.out) hG).setCell (Nat.le_refl _) _).setCell (Nat.le_refl _) _)
      clear hc hf hz hG c13 c14 c3l uq0 uq1 uq2 uq3 uql s0 s1 sl o0 o1 ol oo
      go_wp2
      exact ⟨⟨j + 1, by omega, by go_num, HGN.out, by rw [HST.out]; exact HBN.out⟩, by simp [intOf]; omega⟩
    · have hjl : j = L := by omega
      subst hjl
      have htk : es.take j = es := List.take_of_length_le (by omega)
      rw [htk] at HBO
      have hlt51 : decide ((j : Int) < (j : Int)) = false := by simp
      obtain ⟨lo, hlo⟩ : ∃ a, ((⟨k, 0, u⟩ : Tm).eyesTo (1, 10000) es).1 = a := ⟨_, rfl⟩
      obtain ⟨hi, hhi⟩ : ∃ a, ((⟨k, 0, u⟩ : Tm).eyesTo (1, 10000) es).2 = a := ⟨_, rfl⟩
      rw [hlo, hhi] at hcc HBO
      rw [hlo] at hx
      rw [hhi] at hy
      have o0 := HBO.out.cell (i := 0) rfl
      have o1 := HBO.out.cell (i := 1) rfl
      have ol := HBO.out.lt
      have HGE := Lib.hid (Gr.tr HG2.out HG.out)
      have hno : ¬ w.heap.size + 1 + 1 = w2.heap.size := by omega
      clear hlo hhi htk
      have z0 := HZR.out.cell (i := 0) rfl
      have z1 := HZR.out.cell (i := 1) rfl
      have zf := HZR.out.free
      have zl := HZR.out.lt
      cases c with
      | true =>
        have hc' := of_decide_eq_true hcc
        go_wp2_with fail
        exact bodyPost_ret (v := .tuple #[.agg #[.int .i64 0, .int .i64 0], .int .i64 4]) (by simp [results, Tryz.results19, go_sem, z0, z1, zl, zf]) rfl ⟨by rw [hx.out, hy.out, hz.out]; rfl, ((show Below w.heap.size w _ from HGE.out).setCell (show w.heap.size ≤ w.heap.size + 1 + 1 by omega) _).setCell (show w.heap.size ≤ w.heap.size + 1 + 1 by omega) _⟩
      | false =>
        have hc' := of_decide_eq_false hcc
        go_wp2_with fail
        exact bodyPost_ret (v := .tuple #[.agg #[.int .i64 lo, .int .i64 hi], .int .i64 0]) (by simp [results, Tryz.results19, go_sem, z0, z1, zl, zf]) rfl ⟨by rw [hx.out, hy.out, hz.out]; rfl, ((show Below w.heap.size w _ from HGE.out).setCell (show w.heap.size ≤ w.heap.size + 1 + 1 by omega) _).setCell (show w.heap.size ≤ w.heap.size + 1 + 1 by omega) _⟩
theorem reyes_any (k : Cd) (u : Cu) (w : World) (hT : TsA k.p.l (.slice k.sp k.p.l.length k.cap) w) {x y z : Int} (h : k.eyesA u = (x, y, z)) :
    Calls Tryz.prog 19 #[.agg k.cs.toArray, .agg #[.int .i64 u.a, .int .i64 u.b, .int .i64 u.c, .int .i64 u.d]] w fun e w' => e = .returned (.tuple #[.agg #[.int .i64 x, .int .i64 y], .int .i64 z]) ∧ Below w.heap.size w w' := by
  unfold Cd.eyesA at h
  by_cases c : k.err [u] = 0
  · rw [if_pos c] at h
    obtain ⟨h1, h2, h3, h4⟩ := Cd.err_zero c
    unfold Tm.eyes at h
    dsimp only at h
    refine reyes_ok k u w hT 0 _ rfl rfl h1 h2 h4 (h3 u (by simp)) _ rfl x y z (Lib.hid ?_) (Lib.hid ?_) (Lib.hid ?_) (Lib.hid c)
    all_goals
      by_cases g : ((⟨k, 0, u⟩ : Tm).eyesTo (1, 10000) k.p.sees).2 < ((⟨k, 0, u⟩ : Tm).eyesTo (1, 10000) k.p.sees).1
      · rw [if_pos g] at h; cases h; simp [g]
      · rw [if_neg g] at h; cases h; simp [g]
  · rw [if_neg c] at h
    cases h
    exact reyes_err k u w hT _ (by simpa using c) (Lib.hid rfl)
end Go.Proofs.YtcngaohfemdfjaaGreat
