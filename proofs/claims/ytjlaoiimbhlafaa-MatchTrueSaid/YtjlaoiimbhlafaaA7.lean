import Derived.Test.YtjlaoiimbhlafaaA6p
set_option linter.unusedVariables false
set_option linter.unusedSimpArgs false
namespace Go.Proofs.Ytjlaoiimbhlafaa
open Go.RowKit Go.Shelf

open MW
attribute [local go_sem] Oper.semAt_some run_store_func
attribute [local go_sem ↓] Go.wp_at_zero Go.wp_at_succ
set_option maxRecDepth 100000 in
set_option maxHeartbeats 8000000 in
theorem made_loop {w0 w : World} {A B b o len cap D br N1 n : Nat} {s t : Int} (K : MdK w0 A B b D br N1) (I : MdI w0 A B b o len cap D br N1 n [] [] [] [] (.slice none 0 0) (.slice none 0 0) (.slice none 0 0) (.slice none 0 0) [(.slice none 0 0), (.slice none 0 0), .int .i64 s, .int .i64 t, .int .i64 0] w) (hn : n ≤ 100) (s0 : 0 ≤ s) (s1 : s ≤ 29) (t0 : s ≤ t) (t1 : t ≤ s + 39) {Q : Ending → World → Prop}
    (hQ : ∀ (L R : List Mrk) (P : List (Nat × Nat)) (S : List Int) (vl vr vp vi : Value) (k m : Nat) (h hh d : Int) (W : World), k ≤ 10 → m ≤ 90000 → 0 ≤ d → Md s t k L R P S h → hh = (if 20 < h + d then 20 else h + d) → MdI w0 A B b o len cap D br N1 m L R P S vl vr vp vi [vl, vr, .int .i64 s, .int .i64 t, .int .i64 hh] W → Q (.returned (.tuple #[.agg #[vl, vr, .int .i64 s, .int .i64 t, .int .i64 hh], vp, vi])) W) {s0 s5 s8 s9 s10 s11 s12 s13 s14 s15 s16 s17 s18 s19 s20 s21 s22 s23 s24 s25 s26 s27 s28 s29 s30 s31 s32 s33 s34 s35 s36 s37 s38 s39 s40 s41 s42 s43 s44 s45 s46 s47 s48 s49 s50 s51 s52 s53 s54 s55 s56 s57 s58 s59 s60 s61 s62 s63 s64 s65 s66 s67 s68 s69 s70 s71 s72 s73 s74 s75 s76 s77 s78 s79 s80 s81 s82 s83 s84 s85 s86 s87 s88 s89 s90 s91 s92 s93 s94 s95 s96 s97 s98 s99 s100 s101 s102 s103 s104 s105 s106 s107 s108 s109 s110 s111 s112 s113 s114 s115 s116 s117 s118 s119 s120 s121 s122 s123 s124 s125 s126 : Value} :
    (Code.snd5 (Code.snd5 (Code.snd5 (Code.snd5 (Code.snd5 (Try.f36.body.getD .skip)))))).wp Try.prog (bodyPost Try.prog Try.f36 Q) { tmps := #[s0, .pointer (some ⟨D, 0, none⟩), .pointer (some ⟨br, 0, none⟩), .slice none 0 0, .slice none 0 0, s5, .int .i64 1000, .func (.func 76) #[] #[.pointer (some ⟨D, 0, none⟩)], s8, s9, s10, s11, s12, s13, s14, s15, s16, s17, s18, s19, s20, s21, s22, s23, s24, s25, s26, s27, s28, s29, s30, s31, s32, s33, s34, s35, s36, s37, s38, s39, s40, s41, s42, s43, s44, s45, s46, s47, s48, s49, s50, s51, s52, s53, s54, s55, s56, s57, s58, s59, s60, s61, s62, s63, s64, s65, s66, s67, s68, s69, s70, s71, s72, s73, s74, s75, s76, s77, s78, s79, s80, s81, s82, s83, s84, s85, s86, s87, s88, s89, s90, s91, s92, s93, s94, s95, s96, s97, s98, s99, s100, s101, s102, s103, s104, s105, s106, s107, s108, s109, s110, s111, s112, s113, s114, s115, s116, s117, s118, s119, s120, s121, s122, s123, s124, s125, s126], defers := [] } w := by
  conv => arg 2; whnf
  have HI := Lib.hid I
  have HK := Lib.hid K
  have HQ := Lib.hid hQ
  have kA : A < w0.heap.size := K.A
  have kD : w0.heap.size ≤ D := K.D0
  have kr : w0.heap.size ≤ br := K.r0
  have hDA : D ≠ A := by omega
  have hrA : br ≠ A := by omega
  clear I K hQ
  apply wp_seq_k
  intro K1 hK1
  have HK1 := Lib.hid hK1
  clear hK1
  have c0 := HI.out.fn.cell (i := 0) rfl
  have cl := HI.out.fn.lt
  unfold drawV at c0
  go_wp2_with fail
  refine (draw_any HI.out.drw (by omega) 11 (by omega) (by omega)).mono ?_
  rintro e w1 ⟨⟨m, rfl, m0, m1⟩, hd⟩
  have HI := Lib.hid (HI.out.go HK.out hd)
  clear hd c0 cl
  dsimp only
  go_wp2_with fail
  go_loopw [24, 3, 4, 6] (fun tc vp vi ta wr => ∃ (k : Nat) (L R : List Mrk) (P : List (Nat × Nat)) (S : List Int) (vl vr : Value) (hh a : Int), k ≤ m ∧ tc = .int .i64 k ∧ ta = .int .i64 a ∧ 1000 ≤ a ∧ a ≤ 1000 + 150 * k ∧ Hid (MdI w0 A B b o len cap D br N1 (200 + 700 * k) L R P S vl vr vp vi [vl, vr, .int .i64 s, .int .i64 t, .int .i64 hh] wr) ∧ Hid (Md s t k L R P S hh)) (fun tc _ _ _ _ => (20 - intOf tc).toNat)
  case atStart => exact ⟨0, [], [], [], [], _, _, 0, 1000, by omega, rfl, rfl, by omega, by omega, Lib.hid (HI.out.le (by omega)), Lib.hid (Md.nil _ _ _ rfl)⟩
  case round =>
    obtain ⟨k, L, R, P, S, vl, vr, hh, a, hkm, rfl, rfl, a0, a1, HI, HM⟩ := hrel
    by_cases hlt : (k : Int) < m
    · have c0 := HI.out.fn.cell (i := 0) rfl
      have cl := HI.out.fn.lt
      unfold drawV at c0
      go_wp2_with fail
      refine (draw_any HI.out.drw (by omega) 50 (by omega) (by omega)).mono ?_
      rintro e w2 ⟨⟨z, rfl, z0, z1⟩, hd⟩
      have HI := Lib.hid (HI.out.go HK.out hd)
      clear hd c0 cl
      dsimp only
      go_upto_region 8 with fail
      obtain ⟨aa, haa⟩ : ∃ aa : Int, aa = a + (100 + z) := ⟨_, rfl⟩
      rw [← haa]
      have haa0 : 1100 ≤ aa ∧ aa ≤ 1000 + 150 * (k + 1) := by omega
      clear haa
      refine Dv.region2 (A := A) (κ := 1) 19 ?_ ?_ ?_
      · kernel_rfl
      · kernel_rfl
      simp only [List.take_succ_cons, List.take_zero, List.drop_succ_cons, List.drop_zero]
      apply Dv.chain_eq (D := [(2, none)]) rfl (by kernel_rfl)
      · intro ρ W ⟨p1, p2, p3⟩ hG hF K hK; (try simp only [FactsD, DI, DS, List.getD_cons_zero, List.getD_cons_succ, List.getD_nil, and_true, true_and] at hF); obtain he2_0 := hF; have hG2 := (Dn.drew A _).tr hG; have ⟨hc, hf, hz⟩ := hG2.cells; go_simp; exact hK _ Dv.gives_val
      apply Dv.chain_eq (D := [(31, some 0)]) rfl (by kernel_rfl)
      · intro ρ W ⟨p1, p2, p3⟩ hG hF K hK; (try simp only [FactsD, DI, DS, List.getD_cons_zero, List.getD_cons_succ, List.getD_nil, and_true, true_and] at hF); obtain he31_1 := hF; have hG2 := (Dn.drew A _).tr hG; have ⟨hc, hf, hz⟩ := hG2.cells; go_simp; exact hK _ Dv.gives_val
      apply Dv.chain_eq (D := [(32, some 0)]) rfl (by kernel_rfl)
      · intro ρ W ⟨p1, p2, p3⟩ hG hF K hK; (try simp only [FactsD, DI, DS, List.getD_cons_zero, List.getD_cons_succ, List.getD_nil, and_true, true_and] at hF); obtain he32_2 := hF; have hG2 := (Dn.drew A _).tr hG; have ⟨hc, hf, hz⟩ := hG2.cells; have hR := hG2.box HI.out.box hrA; obtain ⟨x0, x1, x2, x3, x4⟩ := cells5 hR; have xl := hR.lt; go_simp; exact hK _ Dv.gives_val
      apply Dv.chain_eq (D := [(1, none)]) rfl (by kernel_rfl)
      · intro ρ W ⟨p1, p2, p3⟩ hG hF K hK; (try simp only [FactsD, DI, DS, List.getD_cons_zero, List.getD_cons_succ, List.getD_nil, and_true, true_and] at hF); obtain he1_3 := hF; have hG2 := (Dn.drew A _).tr hG; have ⟨hc, hf, hz⟩ := hG2.cells; have hD2 := (hG2.box HI.out.fn hDA).cell (i := 0) rfl; have hDl := (hG2.box HI.out.fn hDA).lt; unfold drawV at hD2; go_simp; exact hK _ Dv.gives_val
      apply Dv.chain_eq (D := [(2, none)]) rfl (by kernel_rfl)
      · intro ρ W ⟨p1, p2, p3⟩ hG hF K hK; (try simp only [FactsD, DI, DS, List.getD_cons_zero, List.getD_cons_succ, List.getD_nil, and_true, true_and] at hF); obtain he2_4 := hF; have hG2 := (Dn.drew A _).tr hG; have ⟨hc, hf, hz⟩ := hG2.cells; go_simp; exact hK _ Dv.gives_val
      apply Dv.chain_eq (D := [(35, some 0)]) rfl (by kernel_rfl)
      · intro ρ W ⟨p1, p2, p3⟩ hG hF K hK; (try simp only [FactsD, DI, DS, List.getD_cons_zero, List.getD_cons_succ, List.getD_nil, and_true, true_and] at hF); obtain he35_5 := hF; have hG2 := (Dn.drew A _).tr hG; have ⟨hc, hf, hz⟩ := hG2.cells; go_simp; exact hK _ Dv.gives_val
      apply Dv.chain_eq (D := [(36, some 0)]) rfl (by kernel_rfl)
      · intro ρ W ⟨p1, p2, p3⟩ hG hF K hK; (try simp only [FactsD, DI, DS, List.getD_cons_zero, List.getD_cons_succ, List.getD_nil, and_true, true_and] at hF); obtain he36_6 := hF; have hG2 := (Dn.drew A _).tr hG; have ⟨hc, hf, hz⟩ := hG2.cells; have hR := hG2.box HI.out.box hrA; obtain ⟨x0, x1, x2, x3, x4⟩ := cells5 hR; have xl := hR.lt; go_simp; exact hK _ Dv.gives_val
      apply Dv.chain_eq (D := [(2, none)]) rfl (by kernel_rfl)
      · intro ρ W ⟨p1, p2, p3⟩ hG hF K hK; (try simp only [FactsD, DI, DS, List.getD_cons_zero, List.getD_cons_succ, List.getD_nil, and_true, true_and] at hF); obtain he2_7 := hF; have hG2 := (Dn.drew A _).tr hG; have ⟨hc, hf, hz⟩ := hG2.cells; go_simp; exact hK _ Dv.gives_val
      apply Dv.chain_eq (D := [(38, some 0)]) rfl (by kernel_rfl)
      · intro ρ W ⟨p1, p2, p3⟩ hG hF K hK; (try simp only [FactsD, DI, DS, List.getD_cons_zero, List.getD_cons_succ, List.getD_nil, and_true, true_and] at hF); obtain he38_8 := hF; have hG2 := (Dn.drew A _).tr hG; have ⟨hc, hf, hz⟩ := hG2.cells; go_simp; exact hK _ Dv.gives_val
      apply Dv.chain_eq (D := [(39, some 0)]) rfl (by kernel_rfl)
      · intro ρ W ⟨p1, p2, p3⟩ hG hF K hK; (try simp only [FactsD, DI, DS, List.getD_cons_zero, List.getD_cons_succ, List.getD_nil, and_true, true_and] at hF); obtain he39_9 := hF; have hG2 := (Dn.drew A _).tr hG; have ⟨hc, hf, hz⟩ := hG2.cells; have hR := hG2.box HI.out.box hrA; obtain ⟨x0, x1, x2, x3, x4⟩ := cells5 hR; have xl := hR.lt; go_simp; exact hK _ Dv.gives_val
      refine Dv.chain_any (V := DI (fun r => r = t - s)) (D := [(37, some 3), (40, some 0)]) rfl (by kernel_rfl) (DI.lasts _) ?_ ?_
      · intro ρ W ⟨p1, p2, p3⟩ hG hF K hK; (try simp only [FactsD, DI, DS, List.getD_cons_zero, List.getD_cons_succ, List.getD_nil, and_true, true_and] at hF); obtain ⟨he37_10, he40_10⟩ := hF; have hG2 := (Dn.drew A _).tr hG; have ⟨hc, hf, hz⟩ := hG2.cells; go_simp; exact hK _ (DI.valw (by omega) (by omega) (by omega))
      refine Dv.chain_any (V := DI (fun r => r = t - s + 1)) (D := [(41, some 0)]) rfl (by kernel_rfl) (DI.lasts _) ?_ ?_
      · intro ρ W ⟨p1, p2, p3⟩ hG hF K hK; (try simp only [FactsD, DI, DS, List.getD_cons_zero, List.getD_cons_succ, List.getD_nil, and_true, true_and] at hF); obtain ⟨r41, hr41, hp41⟩ := hF; have hG2 := (Dn.drew A _).tr hG; have ⟨hc, hf, hz⟩ := hG2.cells; go_simp; exact hK _ (DI.valw (by omega) (by omega) (by omega))
      refine Dv.chain_any (V := DI (fun r => 0 ≤ r ∧ r < t - s + 1)) (D := [(34, some 8), (42, some 0)]) rfl (by kernel_rfl) (DI.lasts _) ?_ ?_
      · intro ρ W ⟨p1, p2, p3⟩ hG hF K hK; (try simp only [FactsD, DI, DS, List.getD_cons_zero, List.getD_cons_succ, List.getD_nil, and_true, true_and] at hF); obtain ⟨he34_12, ⟨r42, hr42, hp42⟩⟩ := hF; have hG2 := (Dn.drew A _).tr hG; have ⟨hc, hf, hz⟩ := hG2.cells; go_simp; exact hK _ (Dv.gives_rel (draw_rel (HI.out.drw.grow hG2) (by omega) _ (by omega) (by omega)))
      refine Dv.chain_any (V := DI (fun r => s ≤ r ∧ r ≤ t)) (D := [(33, some 10), (43, some 0)]) rfl (by kernel_rfl) (DI.lasts _) ?_ ?_
      · intro ρ W ⟨p1, p2, p3⟩ hG hF K hK; (try simp only [FactsD, DI, DS, List.getD_cons_zero, List.getD_cons_succ, List.getD_nil, and_true, true_and] at hF); obtain ⟨he33_13, ⟨r43, hr43, hp43⟩⟩ := hF; have hG2 := (Dn.drew A _).tr hG; have ⟨hc, hf, hz⟩ := hG2.cells; go_simp; exact hK _ (DI.valw (by omega) (by omega) (by omega))
      apply Dv.chain_eq (D := [(1, none)]) rfl (by kernel_rfl)
      · intro ρ W ⟨p1, p2, p3⟩ hG hF K hK; (try simp only [FactsD, DI, DS, List.getD_cons_zero, List.getD_cons_succ, List.getD_nil, and_true, true_and] at hF); obtain he1_14 := hF; have hG2 := (Dn.drew A _).tr hG; have ⟨hc, hf, hz⟩ := hG2.cells; have hD2 := (hG2.box HI.out.fn hDA).cell (i := 0) rfl; have hDl := (hG2.box HI.out.fn hDA).lt; unfold drawV at hD2; go_simp; exact hK _ Dv.gives_val
      refine Dv.chain_any (V := DI (fun r => 0 ≤ r ∧ r < 3)) (D := [(45, some 0)]) rfl (by kernel_rfl) (DI.lasts _) ?_ ?_
      · intro ρ W ⟨p1, p2, p3⟩ hG hF K hK; (try simp only [FactsD, DI, DS, List.getD_cons_zero, List.getD_cons_succ, List.getD_nil, and_true, true_and] at hF); obtain he45_15 := hF; have hG2 := (Dn.drew A _).tr hG; have ⟨hc, hf, hz⟩ := hG2.cells; go_simp; exact hK _ (Dv.gives_rel (draw_rel (HI.out.drw.grow hG2) (by omega) _ (by omega) (by omega)))
      refine Dv.chain_any (V := DI (fun r => 0 ≤ r ∧ r ≤ 80)) (D := [(46, some 0)]) rfl (by kernel_rfl) (DI.lasts _) ?_ ?_
      · intro ρ W ⟨p1, p2, p3⟩ hG hF K hK; (try simp only [FactsD, DI, DS, List.getD_cons_zero, List.getD_cons_succ, List.getD_nil, and_true, true_and] at hF); obtain ⟨r46, hr46, hp46⟩ := hF; have hG2 := (Dn.drew A _).tr hG; have ⟨hc, hf, hz⟩ := hG2.cells; go_simp; exact hK _ (DI.valw (by omega) (by omega) (by omega))
      refine Dv.chain_any (V := DI (fun r => s ≤ r ∧ r ≤ t)) (D := [(44, some 3)]) rfl (by kernel_rfl) (DI.lasts _) ?_ ?_
      · intro ρ W ⟨p1, p2, p3⟩ hG hF K hK; (try simp only [FactsD, DI, DS, List.getD_cons_zero, List.getD_cons_succ, List.getD_nil, and_true, true_and] at hF); obtain ⟨r44, hr44, hp44⟩ := hF; have hG2 := (Dn.drew A _).tr hG; have ⟨hc, hf, hz⟩ := hG2.cells; go_simp; exact hK _ (DI.val hp44)
      refine Dv.chain_any (V := DI (fun r => 0 ≤ r ∧ r ≤ 80)) (D := [(47, some 1)]) rfl (by kernel_rfl) (DI.lasts _) ?_ ?_
      · intro ρ W ⟨p1, p2, p3⟩ hG hF K hK; (try simp only [FactsD, DI, DS, List.getD_cons_zero, List.getD_cons_succ, List.getD_nil, and_true, true_and] at hF); obtain ⟨r47, hr47, hp47⟩ := hF; have hG2 := (Dn.drew A _).tr hG; have ⟨hc, hf, hz⟩ := hG2.cells; go_simp; exact hK _ (DI.val hp47)
      refine Dv.chain_done ?_
      intro vs W hG hV
      obtain ⟨⟨tn, e18, tn0, tn1⟩, ⟨sh, e17, sh0, sh1⟩, -⟩ := hV
      set_option maxRecDepth 100000 in
      simp only [lay, Act.put, List.getElem?_toArray, List.getElem?_cons_succ, List.getElem?_cons_zero, Option.bind_some, List.setIfInBounds_toArray, List.set_cons_succ, List.set_cons_zero]
      simp only [Nat.reduceSub] at e17
      simp only [Nat.reduceSub] at e18
      generalize vs 0 = v0
      generalize vs 1 = v1
      generalize vs 2 = v2
      generalize vs 3 = v3
      generalize vs 4 = v4
      generalize vs 5 = v5
      generalize vs 6 = v6
      generalize vs 7 = v7
      generalize vs 8 = v8
      generalize vs 9 = v9
      generalize vs 10 = v10
      generalize vs 11 = v11
      generalize vs 12 = v12
      generalize vs 13 = v13
      generalize vs 14 = v14
      generalize vs 15 = v15
      generalize vs 16 = v16
      generalize vs 17 = v17 at *
      generalize vs 18 = v18 at *
      subst e17
      subst e18
      have HI := Lib.hid (HI.out.go HK.out hG)
      clear hG
      go_wp2_with fail
      refine (around_any HI.out.drw (by omega) HI.out.fn hDA _ _ _ (by omega) (by omega) (by omega) (by omega) (by omega)).mono ?_
      rintro e w3 ⟨⟨v, rfl, a1, b1, rfl, ab1⟩, hd⟩
      have HI := Lib.hid (HI.out.go HK.out hd)
      clear hd
      dsimp only
      go_wp2_with fail
      refine (around_any HI.out.drw (by omega) HI.out.fn hDA _ _ _ (by omega) (by omega) (by omega) (by omega) (by omega)).mono ?_
      rintro e w4 ⟨⟨v, rfl, a2, b2, rfl, ab2⟩, hd⟩
      have HI := Lib.hid (HI.out.go HK.out hd)
      clear hd
      dsimp only
      go_wp2_with fail
      refine (around_any HI.out.drw (by omega) HI.out.fn hDA _ _ _ (by omega) (by omega) (by omega) (by omega) (by omega)).mono ?_
      rintro e w5 ⟨⟨v, rfl, a3, b3, rfl, ab3⟩, hd⟩
      have HI := Lib.hid (HI.out.go HK.out hd)
      clear hd
      dsimp only
      go_wp2_with fail
      refine (around_any HI.out.drw (by omega) HI.out.fn hDA _ _ _ (by omega) (by omega) (by omega) (by omega) (by omega)).mono ?_
      rintro e w6 ⟨⟨v, rfl, a4, b4, rfl, ab4⟩, hd⟩
      have HI := Lib.hid (HI.out.go HK.out hd)
      clear hd
      dsimp only
      go_upto_region 10 with fail
      rename ∀ (a : Act) (w : World), _ → _ => hKK
      have HKK := Lib.hid hKK
      clear hKK
      have hXok : (⟨a1, b1, a2, b2⟩ : Mrk).ok = true := by unfold Mrk.ok okS; simp only [Bool.and_eq_true, decide_eq_true_eq]; omega
      have hYok : (⟨a3, b3, a4, b4⟩ : Mrk).ok = true := by unfold Mrk.ok okS; simp only [Bool.and_eq_true, decide_eq_true_eq]; omega
      have hTr : tru s t ⟨a1, b1, a2, b2⟩ ⟨a3, b3, a4, b4⟩ sh := tru_of (at_ := aa) (to_ := tn) (by simp only []; omega) (by simp only []; omega) (by simp only []; omega) (by simp only []; omega) ⟨sh0, sh1⟩
      have HXO := Lib.hid (show (⟨a1, b1, a2, b2⟩ : Mrk).ok = true ∧ (⟨a3, b3, a4, b4⟩ : Mrk).ok = true ∧ tru s t ⟨a1, b1, a2, b2⟩ ⟨a3, b3, a4, b4⟩ sh from ⟨hXok, hYok, hTr⟩)
      clear hXok hYok hTr
      have hs6 : N1 ≤ w6.heap.size := HI.out.size
      have kD1 : D < N1 := HK.out.D1
      have kr1 : br < N1 := HK.out.r1
      have HFAR := Lib.hid (show ∀ q, vl.ownBlock = some q ∨ vr.ownBlock = some q → q ≠ w6.heap.size ∧ q ≠ w6.heap.size + 1 from fun q h => by
        have h1 : q < w6.heap.size := by
          rcases h with h | h
          · exact (HI.out.ol.lt q h).2
          · exact (HI.out.or_.lt q h).2
        omega)
      have HX := Lib.hid ((Box.fresh w6 [.int .i64 a1, .int .i64 b1, .int .i64 a2, .int .i64 b2] 65).grow (Gr.alloc _ (Obj.cells #[.int .i64 a3, .int .i64 b3, .int .i64 a4, .int .i64 b4] 65)))
      have HY := Lib.hid (show Box ((w6.alloc (Obj.cells #[.int .i64 a1, .int .i64 b1, .int .i64 a2, .int .i64 b2] 65)).alloc (Obj.cells #[.int .i64 a3, .int .i64 b3, .int .i64 a4, .int .i64 b4] 65)) (w6.heap.size + 1) [.int .i64 a3, .int .i64 b3, .int .i64 a4, .int .i64 b4] 65 by simpa using Box.fresh (w6.alloc (Obj.cells #[.int .i64 a1, .int .i64 b1, .int .i64 a2, .int .i64 b2] 65)) [.int .i64 a3, .int .i64 b3, .int .i64 a4, .int .i64 b4] 65)
      have HI := Lib.hid (HI.out.gr HK.out ((Gr.alloc w6 (Obj.cells #[.int .i64 a1, .int .i64 b1, .int .i64 a2, .int .i64 b2] 65)).tr (Gr.alloc _ (Obj.cells #[.int .i64 a3, .int .i64 b3, .int .i64 a4, .int .i64 b4] 65))))
      generalize hB6 : w6.heap.size = B6 at *
      generalize (w6.alloc (Obj.cells #[.int .i64 a1, .int .i64 b1, .int .i64 a2, .int .i64 b2] 65)).alloc (Obj.cells #[.int .i64 a3, .int .i64 b3, .int .i64 a4, .int .i64 b4] 65) = w7 at *
      clear hB6
      have c0 := HI.out.fn.cell (i := 0) rfl
      have cl := HI.out.fn.lt
      unfold drawV at c0
      go_wp2_with fail
      refine (draw_any HI.out.drw (by omega) 5 (by omega) (by omega)).mono ?_
      rintro e w8 ⟨⟨z5, rfl, z50, z51⟩, hd⟩
      have HI := Lib.hid (HI.out.go HK.out hd)
      have HX := Lib.hid (hd.box HX.out (by omega))
      have HY := Lib.hid (hd.box HY.out (by omega))
      clear hd c0 cl
      dsimp only
      go_wp2_with fail
      refine HKK.out _ _ ?_
      clear HKK
      by_cases hz : z5 = 0
      · refine made_left HK.out HI.out HM.out (by omega) HX HY HXO.out.1 HXO.out.2.1 HXO.out.2.2 HFAR.out hz ?_
        intro L' R' P' S' vl' vr' vp' vi' hh' W I' M' z66 z67 z68 z69 z70 z71 z72 z73 z74 z75 z76 z77 z78 z79 z80 z81 z82 z83 z84 z85 z86 z87 z88 z89 z90 z91 z92 z93 z94 z95 z96 z97 z98 z99 z100 z101 z102 z103 z104 z105 z106 z107 z108 z109 z110 z111 z112 z113 z114 z115
        have HI2 := Lib.hid (I'.le (show _ ≤ 200 + 700 * (k + 1) by omega))
        have HM2 := Lib.hid M'
        clear I' M'
        go_wp2_with fail
        exact ⟨⟨k + 1, L', R', P', S', vl', vr', hh', aa, by omega, by go_num, rfl, by omega, by omega, HI2, HM2⟩, by simp [intOf]; omega⟩
      · by_cases hz1 : z5 = 1
        · refine made_right HK.out HI.out HM.out (by omega) HX HY HXO.out.1 HXO.out.2.1 HXO.out.2.2 HFAR.out hz hz1 ?_
          intro L' R' P' S' vl' vr' vp' vi' hh' W I' M' z66 z67 z68 z69 z70 z71 z72 z73 z74 z75 z76 z77 z78 z79 z80 z81 z82 z83 z84 z85 z86 z87 z88 z89 z90 z91 z92 z93 z94 z95 z96 z97 z98 z99 z100 z101 z102 z103 z104 z105 z106 z107 z108 z109 z110 z111 z112 z113 z114 z115
          have HI2 := Lib.hid (I'.le (show _ ≤ 200 + 700 * (k + 1) by omega))
          have HM2 := Lib.hid M'
          clear I' M'
          go_wp2_with fail
          exact ⟨⟨k + 1, L', R', P', S', vl', vr', hh', aa, by omega, by go_num, rfl, by omega, by omega, HI2, HM2⟩, by simp [intOf]; omega⟩
        · refine made_pair HK.out HI.out HM.out (by omega) HX HY HXO.out.1 HXO.out.2.1 HXO.out.2.2 HFAR.out hz hz1 (by omega) (by omega) ?_
          intro L' R' P' S' vl' vr' vp' vi' hh' W I' M' z66 z67 z68 z69 z70 z71 z72 z73 z74 z75 z76 z77 z78 z79 z80 z81 z82 z83 z84 z85 z86 z87 z88 z89 z90 z91 z92 z93 z94 z95 z96 z97 z98 z99 z100 z101 z102 z103 z104 z105 z106 z107 z108 z109 z110 z111 z112 z113 z114 z115
          have HI2 := Lib.hid (I'.le (show _ ≤ 200 + 700 * (k + 1) by omega))
          have HM2 := Lib.hid M'
          clear I' M'
          go_wp2_with fail
          exact ⟨⟨k + 1, L', R', P', S', vl', vr', hh', aa, by omega, by go_num, rfl, by omega, by omega, HI2, HM2⟩, by simp [intOf]; omega⟩
    · have hkm2 : (k : Int) = m := by omega
      have hh0 : 0 ≤ hh ∧ hh ≤ 1000 := by have := HM.out.few; have := HM.out.hid; have := HM.out.len_le; have := HM.out.nL; have := HM.out.nR; omega
      go_wp2_with fail
      exact HK1.out _ _ (made_end HK.out HI.out (by omega) hh0.1 hh0.2 fun d W d0 d1 I => HQ.out _ _ _ _ _ _ _ _ k _ _ _ d _ (by omega) (by omega) d0 HM.out rfl I)

end Go.Proofs.Ytjlaoiimbhlafaa
