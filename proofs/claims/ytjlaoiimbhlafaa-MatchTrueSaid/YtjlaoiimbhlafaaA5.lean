import Derived.Test.YtjlaoiimbhlafaaA4
set_option linter.unusedVariables false
set_option linter.unusedSimpArgs false
namespace Go.Proofs.Ytjlaoiimbhlafaa
open Go.RowKit Go.Shelf

open MW
attribute [local go_sem] Oper.semAt_some run_store_func
attribute [local go_sem ↓] Go.wp_at_zero Go.wp_at_succ
def Code.snd5 : Code → Code
  | .seq _ b => b
  | c => c
set_option maxRecDepth 100000 in
set_option maxHeartbeats 8000000 in
theorem made_end {w0 w : World} {A B b o len cap D br N1 n : Nat} {L R : List Mrk} {P : List (Nat × Nat)} {S : List Int} {vl vr vp vi : Value} {s t hh : Int} (K : MdK w0 A B b D br N1) (I : MdI w0 A B b o len cap D br N1 n L R P S vl vr vp vi [vl, vr, .int .i64 s, .int .i64 t, .int .i64 hh] w) (hn : n ≤ 80000) (h0 : 0 ≤ hh) (h1 : hh ≤ 1000) {Q : Ending → World → Prop}
    (hQ : ∀ (d : Int) (W : World), 0 ≤ d → d < 3 → MdI w0 A B b o len cap D br N1 (n + 7) L R P S vl vr vp vi [vl, vr, .int .i64 s, .int .i64 t, .int .i64 (if 20 < hh + d then 20 else hh + d)] W → Q (.returned (.tuple #[.agg #[vl, vr, .int .i64 s, .int .i64 t, .int .i64 (if 20 < hh + d then 20 else hh + d)], vp, vi])) W) {s0 s5 s6 s7 s8 s9 s10 s11 s12 s13 s14 s15 s16 s17 s18 s19 s20 s21 s22 s23 s24 s25 s26 s27 s28 s29 s30 s31 s32 s33 s34 s35 s36 s37 s38 s39 s40 s41 s42 s43 s44 s45 s46 s47 s48 s49 s50 s51 s52 s53 s54 s55 s56 s57 s58 s59 s60 s61 s62 s63 s64 s65 s66 s67 s68 s69 s70 s71 s72 s73 s74 s75 s76 s77 s78 s79 s80 s81 s82 s83 s84 s85 s86 s87 s88 s89 s90 s91 s92 s93 s94 s95 s96 s97 s98 s99 s100 s101 s102 s103 s104 s105 s106 s107 s108 s109 s110 s111 s112 s113 s114 s115 s116 s117 s118 s119 s120 s121 s122 s123 s124 s125 s126 : Value} :
    (Code.snd5 (Code.snd5 (Code.snd5 (Code.snd5 (Code.snd5 (Code.snd5 (Try.f36.body.getD .skip))))))).wp Try.prog (bodyPost Try.prog Try.f36 Q) { tmps := #[s0, .pointer (some ⟨D, 0, none⟩), .pointer (some ⟨br, 0, none⟩), vp, vi, s5, s6, s7, s8, s9, s10, s11, s12, s13, s14, s15, s16, s17, s18, s19, s20, s21, s22, s23, s24, s25, s26, s27, s28, s29, s30, s31, s32, s33, s34, s35, s36, s37, s38, s39, s40, s41, s42, s43, s44, s45, s46, s47, s48, s49, s50, s51, s52, s53, s54, s55, s56, s57, s58, s59, s60, s61, s62, s63, s64, s65, s66, s67, s68, s69, s70, s71, s72, s73, s74, s75, s76, s77, s78, s79, s80, s81, s82, s83, s84, s85, s86, s87, s88, s89, s90, s91, s92, s93, s94, s95, s96, s97, s98, s99, s100, s101, s102, s103, s104, s105, s106, s107, s108, s109, s110, s111, s112, s113, s114, s115, s116, s117, s118, s119, s120, s121, s122, s123, s124, s125, s126], defers := [] } w := by
  conv => arg 2; whnf
  obtain ⟨pl, cl, rfl⟩ := own_slice I.ol
  obtain ⟨pr, cr, rfl⟩ := own_slice I.or_
  have HI := Lib.hid I
  have HK := Lib.hid K
  have HQ := Lib.hid hQ
  have kA : A < w0.heap.size := K.A
  have kD : w0.heap.size ≤ D := K.D0
  have kr : w0.heap.size ≤ br := K.r0
  have hDA : D ≠ A := by omega
  have hrA : br ≠ A := by omega
  clear I K hQ
  apply wp_seq_k
  intro K1 hK1
  have HK1 := Lib.hid hK1
  clear hK1
  refine Dv.region2 (A := A) (κ := 1) 7 ?_ ?_ ?_
  · kernel_rfl
  · kernel_rfl
  simp only [List.take_succ_cons, List.take_zero, List.drop_succ_cons, List.drop_zero]
  apply Dv.chain_eq (D := [(2, none)]) rfl (by kernel_rfl)
  · intro ρ W ⟨p1, p2, p3⟩ hG hF K hK; (try simp only [FactsD, DI, DS, List.getD_cons_zero, List.getD_cons_succ, List.getD_nil, and_true, true_and] at hF); obtain he2_0 := hF; have hG2 := (Dn.drew A _).tr hG; have ⟨hc, hf, hz⟩ := hG2.cells; go_simp; exact hK _ Dv.gives_val
  apply Dv.chain_eq (D := [(117, some 0)]) rfl (by kernel_rfl)
  · intro ρ W ⟨p1, p2, p3⟩ hG hF K hK; (try simp only [FactsD, DI, DS, List.getD_cons_zero, List.getD_cons_succ, List.getD_nil, and_true, true_and] at hF); obtain he117_1 := hF; have hG2 := (Dn.drew A _).tr hG; have ⟨hc, hf, hz⟩ := hG2.cells; have hR2 := hG2.box HI.out.box hrA; have hR4 := hR2.cell (i := 4) rfl; have hRl := hR2.lt; go_simp; exact hK _ Dv.gives_val
  apply Dv.chain_eq (D := [(1, none)]) rfl (by kernel_rfl)
  · intro ρ W ⟨p1, p2, p3⟩ hG hF K hK; (try simp only [FactsD, DI, DS, List.getD_cons_zero, List.getD_cons_succ, List.getD_nil, and_true, true_and] at hF); obtain he1_2 := hF; have hG2 := (Dn.drew A _).tr hG; have ⟨hc, hf, hz⟩ := hG2.cells; have hD2 := (hG2.box HI.out.fn hDA).cell (i := 0) rfl; have hDl := (hG2.box HI.out.fn hDA).lt; unfold drawV at hD2; go_simp; exact hK _ Dv.gives_val
  refine Dv.chain_any (V := DI (fun r => 0 ≤ r ∧ r < 3)) (D := [(119, some 0)]) rfl (by kernel_rfl) (DI.lasts _) ?_ ?_
  · intro ρ W ⟨p1, p2, p3⟩ hG hF K hK; (try simp only [FactsD, DI, DS, List.getD_cons_zero, List.getD_cons_succ, List.getD_nil, and_true, true_and] at hF); obtain he119_3 := hF; have hG2 := (Dn.drew A _).tr hG; have ⟨hc, hf, hz⟩ := hG2.cells; go_simp; exact hK _ (Dv.gives_rel (draw_rel (HI.out.drw.grow hG2) (by omega) _ (by omega) (by omega)))
  refine Dv.chain_any (V := DI (fun r => ∃ d : Int, 0 ≤ d ∧ d < 3 ∧ r = hh + d)) (D := [(118, some 2), (120, some 0)]) rfl (by kernel_rfl) (DI.lasts _) ?_ ?_
  · intro ρ W ⟨p1, p2, p3⟩ hG hF K hK; (try simp only [FactsD, DI, DS, List.getD_cons_zero, List.getD_cons_succ, List.getD_nil, and_true, true_and] at hF); obtain ⟨he118_4, ⟨r120, hr120, hp120⟩⟩ := hF; have hG2 := (Dn.drew A _).tr hG; have ⟨hc, hf, hz⟩ := hG2.cells; go_simp; exact hK _ (DI.valw (by omega) (by omega) ⟨r120, hp120.1, hp120.2, rfl⟩)
  refine Dv.chain_any (V := DI (fun r => ∃ d : Int, 0 ≤ d ∧ d < 3 ∧ r = (if 20 < hh + d then 20 else hh + d))) (D := [(121, some 0)]) rfl (by kernel_rfl) (DI.lasts _) ?_ ?_
  · intro ρ W ⟨p1, p2, p3⟩ hG hF K hK; (try simp only [FactsD, DI, DS, List.getD_cons_zero, List.getD_cons_succ, List.getD_nil, and_true, true_and] at hF); obtain ⟨r121, hr121, hp121⟩ := hF; have hG2 := (Dn.drew A _).tr hG; have ⟨hc, hf, hz⟩ := hG2.cells; go_simp; exact hK _ (DI.val (by obtain ⟨d, d0, d1, d2⟩ := hp121; subst d2; exact ⟨d, d0, d1, by (repeat' split) <;> omega⟩))
  apply Dv.chain_eq (D := [(2, none)]) rfl (by kernel_rfl)
  · intro ρ W ⟨p1, p2, p3⟩ hG hF K hK; (try simp only [FactsD, DI, DS, List.getD_cons_zero, List.getD_cons_succ, List.getD_nil, and_true, true_and] at hF); obtain he2_6 := hF; have hG2 := (Dn.drew A _).tr hG; have ⟨hc, hf, hz⟩ := hG2.cells; go_simp; exact hK _ Dv.gives_val
  refine Dv.chain_done ?_
  intro vs W hG hV
  obtain ⟨e6, ⟨r, e5, d, d0, d1, hp⟩, -⟩ := hV
  set_option maxRecDepth 100000 in
  simp only [lay, Act.put, List.getElem?_toArray, List.getElem?_cons_succ, List.getElem?_cons_zero, Option.bind_some, List.setIfInBounds_toArray, List.set_cons_succ, List.set_cons_zero]
  simp only [Nat.reduceSub] at e5
  simp only [Nat.reduceSub] at e6
  generalize vs 0 = v0
  generalize vs 1 = v1
  generalize vs 2 = v2
  generalize vs 3 = v3
  generalize vs 4 = v4
  generalize vs 5 = v5 at *
  generalize vs 6 = v6 at *
  subst e5
  subst e6
  have HI := Lib.hid ((HI.out.go HK.out hG).le (show n + 7 ≤ n + 7 from Nat.le_refl _))
  obtain ⟨r0, r1, r2, r3, r4⟩ := cells5 HI.out.box
  have rl := HI.out.box.lt
  have rf4 := HI.out.box.free 4
  have HP := Lib.hid hp
  clear hG hp
  go_wp2_with fail
  have HI := Lib.hid ((HI.out.set HK.out 4 (.int .i64 r)).le (Nat.le_refl _))
  simp only [List.set_cons_zero, List.set_cons_succ] at HI
  refine HK1.out _ _ ?_
  clear HK1 r0 r1 r2 r3 r4 rl rf4
  obtain ⟨r0, r1, r2, r3, r4⟩ := cells5 HI.out.box
  have rl := HI.out.box.lt
  have f0 := HI.out.box.free 0
  have f1 := HI.out.box.free 1
  have f2 := HI.out.box.free 2
  have f3 := HI.out.box.free 3
  have f4 := HI.out.box.free 4
  generalize W.setCell ⟨br, 4, none⟩ (.int .i64 r) = W2 at *
  go_wp2_with fail
  have HI := Lib.hid (((((HI.out.set HK.out 0 (.slice pl L.length cl)).set HK.out 1 (.slice pr R.length cr)).set HK.out 2 (.int .i64 s)).set HK.out 3 (.int .i64 t)).set HK.out 4 (.int .i64 r))
  simp only [List.set_cons_zero, List.set_cons_succ] at HI
  obtain ⟨y0, y1, y2, y3, y4⟩ := cells5 HI.out.box
  refine bodyPost_ret (v := .tuple #[.agg #[.slice pl L.length cl, .slice pr R.length cr, .int .i64 s, .int .i64 t, .int .i64 r], vp, vi]) (by simp [results, Try.results36, go_sem, y0, y1, y2, y3, y4]) rfl ?_
  have hr := HP.out
  subst hr
  exact HQ.out d _ d0 d1 HI.out

end Go.Proofs.Ytjlaoiimbhlafaa
