import Derived.Test.YtofdoadpaedogaaA2
namespace Go.Proofs.Ytofdoadpaedogaa
open Go.RowKit

set_option maxRecDepth 100000 in
set_option maxHeartbeats 40000000 in
theorem ltrue_ok (b o len cap : Nat) (th : Int) (w : World) (hr : ByIn b o len w) (hth : 0 ≤ th ∧ th ≤ 255) :
    Calls Try.prog 5 #[.int .u8 th, .slice (some ⟨b, o, none⟩) len cap] w fun e w' => e = .returned (.bool true) ∧ Below w.heap.size w w' := by
  have x1 : ((len : Int) == 0) = false := by have := hr.1; simp; omega
  have x2 : (len == 0) = false := by have := hr.1; simp; omega
  have HR := Lib.hid hr
  clear hr
  go_enter Try.func5, Try.ntmps5
  go_wp2_with fail
  refine (draws_any b o len cap w HR.out).mono ?_
  rintro e w1 ⟨rfl, hb1, hd1⟩
  have hA1 : w.heap.size + 1 < w1.heap.size := by obtain ⟨m, hm, -⟩ := hd1.at_; exact hm.lt
  unfold drawV
  go_wp2_with fail
  have hga : Gr w1 (w1.alloc (.cells #[.func (.func 67) #[] #[.pointer (some ⟨w.heap.size + 1, 0, none⟩), .pointer (some ⟨w.heap.size, 0, none⟩)]] 40)) := Gr.alloc _ _
  have hD2 : Box (w1.alloc (.cells #[.func (.func 67) #[] #[.pointer (some ⟨w.heap.size + 1, 0, none⟩), .pointer (some ⟨w.heap.size, 0, none⟩)]] 40)) w1.heap.size [drawV (w.heap.size + 1) w.heap.size] 40 := Box.fresh w1 [drawV (w.heap.size + 1) w.heap.size] 40
  have H2 := Lib.hid (hd1.grow (Dr.of hga))
  have HB2 := Lib.hid (show Below w.heap.size w (w1.alloc (.cells #[.func (.func 67) #[] #[.pointer (some ⟨w.heap.size + 1, 0, none⟩), .pointer (some ⟨w.heap.size, 0, none⟩)]] 40)) from bgr hb1 hb1.size hga)
  have HD2 := Lib.hid hD2
  have hDl : w1.heap.size < (w1.alloc (.cells #[.func (.func 67) #[] #[.pointer (some ⟨w.heap.size + 1, 0, none⟩), .pointer (some ⟨w.heap.size, 0, none⟩)]] 40)).heap.size := by simp
  generalize (w1.alloc (.cells #[.func (.func 67) #[] #[.pointer (some ⟨w.heap.size + 1, 0, none⟩), .pointer (some ⟨w.heap.size, 0, none⟩)]] 40)) = w2 at *
  generalize hA : w.heap.size + 1 = A at *
  generalize hD : w1.heap.size = D at *
  have hDA : D ≠ A := by omega
  have hAD : A < D := by omega
  have hBA : w.heap.size ≤ A := by omega
  have c0 := HD2.out.cell (i := 0) rfl
  unfold drawV at c0
  clear hga hD2 hd1 hb1 hD hA
  refine Dw.region2 (A := A) (κ := 1) 8 ?_ ?_ ?_
  · kernel_rfl
  · kernel_rfl
  simp only [List.take_succ_cons, List.take_zero, List.drop_succ_cons, List.drop_zero]
  apply Dw.chain_eq (D := [(5, none)]) rfl (by kernel_rfl)
  · intro ρ W ⟨p1, p2, p3⟩ hG hF K hK; (try simp only [FactsD, and_true] at hF); obtain he5_0 := hF; have hG2 := (Dr.drew A _).tr hG; have ⟨hc, hf, hz⟩ := hG2.cells; go_simp; exact hK _ Dw.gives_val
  refine Dw.chain_any (V := DI (fun r => 0 ≤ r ∧ r < 10000)) (D := [(42, some 0)]) rfl (by kernel_rfl) (DI.lasts _) ?_ ?_
  · intro ρ W ⟨p1, p2, p3⟩ hG hF K hK; (try simp only [FactsD, List.getD_cons_zero, and_true] at hF); obtain he42_1 := hF; have hG2 := (Dr.drew A _).tr hG; have ⟨hc, hf, hz⟩ := hG2.cells; go_simp; exact hK _ (Dw.gives_rel (draw_rel (H2.out.grow hG2) (by omega) 10000 (by omega) (by omega)))
  refine Dw.chain_any (V := DI (fun r => 5000 ≤ r ∧ r < 15000)) (D := [(43, some 0)]) rfl (by kernel_rfl) (DI.lasts _) ?_ ?_
  · intro ρ W ⟨p1, p2, p3⟩ hG hF K hK; (try simp only [FactsD, DI, List.getD_cons_zero, and_true] at hF); obtain ⟨r43, hr43, hp43⟩ := hF; have hG2 := (Dr.drew A _).tr hG; have ⟨hc, hf, hz⟩ := hG2.cells; go_simp; exact hK _ (DI.valw (by omega) (by omega) (by omega))
  apply Dw.chain_eq (D := [(5, none)]) rfl (by kernel_rfl)
  · intro ρ W ⟨p1, p2, p3⟩ hG hF K hK; (try simp only [FactsD, and_true] at hF); obtain he5_3 := hF; have hG2 := (Dr.drew A _).tr hG; have ⟨hc, hf, hz⟩ := hG2.cells; go_simp; exact hK _ Dw.gives_val
  refine Dw.chain_any (V := DI (fun r => 0 ≤ r ∧ r < 40)) (D := [(45, some 0)]) rfl (by kernel_rfl) (DI.lasts _) ?_ ?_
  · intro ρ W ⟨p1, p2, p3⟩ hG hF K hK; (try simp only [FactsD, List.getD_cons_zero, and_true] at hF); obtain he45_4 := hF; have hG2 := (Dr.drew A _).tr hG; have ⟨hc, hf, hz⟩ := hG2.cells; go_simp; exact hK _ (Dw.gives_rel (draw_rel (H2.out.grow hG2) (by omega) 40 (by omega) (by omega)))
  refine Dw.chain_any (V := DI (fun r => 60 ≤ r ∧ r < 100)) (D := [(46, some 0)]) rfl (by kernel_rfl) (DI.lasts _) ?_ ?_
  · intro ρ W ⟨p1, p2, p3⟩ hG hF K hK; (try simp only [FactsD, DI, List.getD_cons_zero, and_true] at hF); obtain ⟨r46, hr46, hp46⟩ := hF; have hG2 := (Dr.drew A _).tr hG; have ⟨hc, hf, hz⟩ := hG2.cells; go_simp; exact hK _ (DI.valw (by omega) (by omega) (by omega))
  refine Dw.chain_any (V := DI (fun r => 5000 ≤ r ∧ r < 15000)) (D := [(44, some 3)]) rfl (by kernel_rfl) (DI.lasts _) ?_ ?_
  · intro ρ W ⟨p1, p2, p3⟩ hG hF K hK; (try simp only [FactsD, DI, List.getD_cons_zero, List.getD_cons_succ, and_true] at hF); obtain ⟨r44, hr44, hp44⟩ := hF; have hG2 := (Dr.drew A _).tr hG; have ⟨hc, hf, hz⟩ := hG2.cells; go_simp; exact hK _ (DI.val (by omega))
  refine Dw.chain_any (V := DI (fun r => 60 ≤ r ∧ r < 100)) (D := [(47, some 1)]) rfl (by kernel_rfl) (DI.lasts _) ?_ ?_
  · intro ρ W ⟨p1, p2, p3⟩ hG hF K hK; (try simp only [FactsD, DI, List.getD_cons_zero, List.getD_cons_succ, and_true] at hF); obtain ⟨r47, hr47, hp47⟩ := hF; have hG2 := (Dr.drew A _).tr hG; have ⟨hc, hf, hz⟩ := hG2.cells; go_simp; exact hK _ (DI.val (by omega))
  refine Dw.chain_done ?_
  intro vs W hG hV
  obtain ⟨⟨ba, e7, hpb⟩, ⟨f, e6, hpf⟩, -⟩ := hV
  set_option maxRecDepth 100000 in
  simp only [lay, Act.put, List.getElem?_toArray, List.getElem?_cons_succ, List.getElem?_cons_zero, Option.bind_some, List.setIfInBounds_toArray, List.set_cons_succ, List.set_cons_zero]
  simp only [Nat.reduceSub] at e6
  simp only [Nat.reduceSub] at e7
  generalize vs 0 = v0
  generalize vs 1 = v1
  generalize vs 2 = v2
  generalize vs 3 = v3
  generalize vs 4 = v4
  generalize vs 5 = v5
  generalize vs 6 = v6 at *
  generalize vs 7 = v7 at *
  subst e6
  subst e7
  have H3 := Lib.hid (H2.out.grow hG)
  have HD3 := Lib.hid (hG.box HD2.out hDA)
  have hs3 := hG.size
  have HB3 := Lib.hid (hG.below HB2.out HB2.out.size hBA)
  have hDl3 : D < W.heap.size := Nat.lt_of_lt_of_le hDl hs3
  have c3 := HD3.out.cell (i := 0) rfl
  unfold drawV at c3
  clear hG c0 H2 HD2 HB2 hDl hs3
  generalize W = w3 at *
  go_wp2_with fail
  refine Dw.region2 (A := A) (κ := 1) 28 ?_ ?_ ?_
  · kernel_rfl
  · kernel_rfl
  simp only [List.take_succ_cons, List.take_zero, List.drop_succ_cons, List.drop_zero]
  apply Dw.chain_eq (D := [(6, none)]) rfl (by kernel_rfl)
  · intro ρ W ⟨p1, p2, p3⟩ hG hF K hK; (try simp only [FactsD, and_true] at hF); obtain he6_0 := hF; have hG2 := (Dr.drew A _).tr hG; have ⟨hc, hf, hz⟩ := hG2.cells; go_simp; exact hK _ Dw.gives_val
  apply Dw.chain_eq (D := [(5, none)]) rfl (by kernel_rfl)
  · intro ρ W ⟨p1, p2, p3⟩ hG hF K hK; (try simp only [FactsD, and_true] at hF); obtain he5_1 := hF; have hG2 := (Dr.drew A _).tr hG; have ⟨hc, hf, hz⟩ := hG2.cells; go_simp; exact hK _ Dw.gives_val
  refine Dw.chain_any (V := DI (fun r => 0 ≤ r ∧ r < 30)) (D := [(49, some 0)]) rfl (by kernel_rfl) (DI.lasts _) ?_ ?_
  · intro ρ W ⟨p1, p2, p3⟩ hG hF K hK; (try simp only [FactsD, List.getD_cons_zero, and_true] at hF); obtain he49_2 := hF; have hG2 := (Dr.drew A _).tr hG; have ⟨hc, hf, hz⟩ := hG2.cells; go_simp; exact hK _ (Dw.gives_rel (draw_rel (H3.out.grow hG2) (by omega) 30 (by omega) (by omega)))
  refine Dw.chain_any (V := DI (fun r => f - 30 < r ∧ r ≤ f)) (D := [(48, some 2), (50, some 0)]) rfl (by kernel_rfl) (DI.lasts _) ?_ ?_
  · intro ρ W ⟨p1, p2, p3⟩ hG hF K hK; (try simp only [FactsD, DI, List.getD_cons_zero, List.getD_cons_succ, and_true] at hF); obtain ⟨he48_3, ⟨r50, hr50, hp50⟩⟩ := hF; have hG2 := (Dr.drew A _).tr hG; have ⟨hc, hf, hz⟩ := hG2.cells; go_simp; exact hK _ (DI.valw (by omega) (by omega) (by omega))
  apply Dw.chain_eq (D := [(6, none)]) rfl (by kernel_rfl)
  · intro ρ W ⟨p1, p2, p3⟩ hG hF K hK; (try simp only [FactsD, and_true] at hF); obtain he6_4 := hF; have hG2 := (Dr.drew A _).tr hG; have ⟨hc, hf, hz⟩ := hG2.cells; go_simp; exact hK _ Dw.gives_val
  apply Dw.chain_eq (D := [(5, none)]) rfl (by kernel_rfl)
  · intro ρ W ⟨p1, p2, p3⟩ hG hF K hK; (try simp only [FactsD, and_true] at hF); obtain he5_5 := hF; have hG2 := (Dr.drew A _).tr hG; have ⟨hc, hf, hz⟩ := hG2.cells; go_simp; exact hK _ Dw.gives_val
  refine Dw.chain_any (V := DI (fun r => 0 ≤ r ∧ r < 30)) (D := [(53, some 0)]) rfl (by kernel_rfl) (DI.lasts _) ?_ ?_
  · intro ρ W ⟨p1, p2, p3⟩ hG hF K hK; (try simp only [FactsD, List.getD_cons_zero, and_true] at hF); obtain he53_6 := hF; have hG2 := (Dr.drew A _).tr hG; have ⟨hc, hf, hz⟩ := hG2.cells; go_simp; exact hK _ (Dw.gives_rel (draw_rel (H3.out.grow hG2) (by omega) 30 (by omega) (by omega)))
  refine Dw.chain_any (V := DI (fun r => f ≤ r ∧ r < f + 30)) (D := [(52, some 2), (54, some 0)]) rfl (by kernel_rfl) (DI.lasts _) ?_ ?_
  · intro ρ W ⟨p1, p2, p3⟩ hG hF K hK; (try simp only [FactsD, DI, List.getD_cons_zero, List.getD_cons_succ, and_true] at hF); obtain ⟨he52_7, ⟨r54, hr54, hp54⟩⟩ := hF; have hG2 := (Dr.drew A _).tr hG; have ⟨hc, hf, hz⟩ := hG2.cells; go_simp; exact hK _ (DI.valw (by omega) (by omega) (by omega))
  refine Dw.chain_any (V := DS (fun x y => f - 30 < x ∧ x ≤ f ∧ f ≤ y ∧ y < f + 30)) (D := [(51, some 4), (55, some 0)]) rfl (by kernel_rfl) (DS.lasts _) ?_ ?_
  · intro ρ W ⟨p1, p2, p3⟩ hG hF K hK; (try simp only [FactsD, DI, List.getD_cons_zero, List.getD_cons_succ, and_true] at hF); obtain ⟨⟨r51, hr51, hp51⟩, ⟨r55, hr55, hp55⟩⟩ := hF; have hG2 := (Dr.drew A _).tr hG; have ⟨hc, hf, hz⟩ := hG2.cells; go_simp; exact hK _ (Dw.gives_rel ((lspan_any _ _ _).mono fun e W' h => ⟨⟨_, h.1, _, _, rfl, by omega⟩, (Dr.of h.2).le (by omega)⟩))
  apply Dw.chain_eq (D := [(7, none)]) rfl (by kernel_rfl)
  · intro ρ W ⟨p1, p2, p3⟩ hG hF K hK; (try simp only [FactsD, and_true] at hF); obtain he7_9 := hF; have hG2 := (Dr.drew A _).tr hG; have ⟨hc, hf, hz⟩ := hG2.cells; go_simp; exact hK _ Dw.gives_val
  apply Dw.chain_eq (D := [(5, none)]) rfl (by kernel_rfl)
  · intro ρ W ⟨p1, p2, p3⟩ hG hF K hK; (try simp only [FactsD, and_true] at hF); obtain he5_10 := hF; have hG2 := (Dr.drew A _).tr hG; have ⟨hc, hf, hz⟩ := hG2.cells; go_simp; exact hK _ Dw.gives_val
  refine Dw.chain_any (V := DI (fun r => 0 ≤ r ∧ r < 3)) (D := [(58, some 0)]) rfl (by kernel_rfl) (DI.lasts _) ?_ ?_
  · intro ρ W ⟨p1, p2, p3⟩ hG hF K hK; (try simp only [FactsD, List.getD_cons_zero, and_true] at hF); obtain he58_11 := hF; have hG2 := (Dr.drew A _).tr hG; have ⟨hc, hf, hz⟩ := hG2.cells; go_simp; exact hK _ (Dw.gives_rel (draw_rel (H3.out.grow hG2) (by omega) 3 (by omega) (by omega)))
  refine Dw.chain_any (V := DI (fun r => ba - 3 < r ∧ r ≤ ba)) (D := [(57, some 2), (59, some 0)]) rfl (by kernel_rfl) (DI.lasts _) ?_ ?_
  · intro ρ W ⟨p1, p2, p3⟩ hG hF K hK; (try simp only [FactsD, DI, List.getD_cons_zero, List.getD_cons_succ, and_true] at hF); obtain ⟨he57_12, ⟨r59, hr59, hp59⟩⟩ := hF; have hG2 := (Dr.drew A _).tr hG; have ⟨hc, hf, hz⟩ := hG2.cells; go_simp; exact hK _ (DI.valw (by omega) (by omega) (by omega))
  apply Dw.chain_eq (D := [(7, none)]) rfl (by kernel_rfl)
  · intro ρ W ⟨p1, p2, p3⟩ hG hF K hK; (try simp only [FactsD, and_true] at hF); obtain he7_13 := hF; have hG2 := (Dr.drew A _).tr hG; have ⟨hc, hf, hz⟩ := hG2.cells; go_simp; exact hK _ Dw.gives_val
  apply Dw.chain_eq (D := [(5, none)]) rfl (by kernel_rfl)
  · intro ρ W ⟨p1, p2, p3⟩ hG hF K hK; (try simp only [FactsD, and_true] at hF); obtain he5_14 := hF; have hG2 := (Dr.drew A _).tr hG; have ⟨hc, hf, hz⟩ := hG2.cells; go_simp; exact hK _ Dw.gives_val
  refine Dw.chain_any (V := DI (fun r => 0 ≤ r ∧ r < 3)) (D := [(62, some 0)]) rfl (by kernel_rfl) (DI.lasts _) ?_ ?_
  · intro ρ W ⟨p1, p2, p3⟩ hG hF K hK; (try simp only [FactsD, List.getD_cons_zero, and_true] at hF); obtain he62_15 := hF; have hG2 := (Dr.drew A _).tr hG; have ⟨hc, hf, hz⟩ := hG2.cells; go_simp; exact hK _ (Dw.gives_rel (draw_rel (H3.out.grow hG2) (by omega) 3 (by omega) (by omega)))
  refine Dw.chain_any (V := DI (fun r => ba ≤ r ∧ r < ba + 3)) (D := [(61, some 2), (63, some 0)]) rfl (by kernel_rfl) (DI.lasts _) ?_ ?_
  · intro ρ W ⟨p1, p2, p3⟩ hG hF K hK; (try simp only [FactsD, DI, List.getD_cons_zero, List.getD_cons_succ, and_true] at hF); obtain ⟨he61_16, ⟨r63, hr63, hp63⟩⟩ := hF; have hG2 := (Dr.drew A _).tr hG; have ⟨hc, hf, hz⟩ := hG2.cells; go_simp; exact hK _ (DI.valw (by omega) (by omega) (by omega))
  refine Dw.chain_any (V := DS (fun x y => ba - 3 < x ∧ x ≤ ba ∧ ba ≤ y ∧ y < ba + 3)) (D := [(60, some 4), (64, some 0)]) rfl (by kernel_rfl) (DS.lasts _) ?_ ?_
  · intro ρ W ⟨p1, p2, p3⟩ hG hF K hK; (try simp only [FactsD, DI, List.getD_cons_zero, List.getD_cons_succ, and_true] at hF); obtain ⟨⟨r60, hr60, hp60⟩, ⟨r64, hr64, hp64⟩⟩ := hF; have hG2 := (Dr.drew A _).tr hG; have ⟨hc, hf, hz⟩ := hG2.cells; go_simp; exact hK _ (Dw.gives_rel ((lspan_any _ _ _).mono fun e W' h => ⟨⟨_, h.1, _, _, rfl, by omega⟩, (Dr.of h.2).le (by omega)⟩))
  apply Dw.chain_eq (D := [(5, none)]) rfl (by kernel_rfl)
  · intro ρ W ⟨p1, p2, p3⟩ hG hF K hK; (try simp only [FactsD, and_true] at hF); obtain he5_18 := hF; have hG2 := (Dr.drew A _).tr hG; have ⟨hc, hf, hz⟩ := hG2.cells; go_simp; exact hK _ Dw.gives_val
  refine Dw.chain_any (V := DI (fun r => 0 ≤ r ∧ r < 9)) (D := [(66, some 0)]) rfl (by kernel_rfl) (DI.lasts _) ?_ ?_
  · intro ρ W ⟨p1, p2, p3⟩ hG hF K hK; (try simp only [FactsD, List.getD_cons_zero, and_true] at hF); obtain he66_19 := hF; have hG2 := (Dr.drew A _).tr hG; have ⟨hc, hf, hz⟩ := hG2.cells; go_simp; exact hK _ (Dw.gives_rel (draw_rel (H3.out.grow hG2) (by omega) 9 (by omega) (by omega)))
  apply Dw.chain_eq (D := [(5, none)]) rfl (by kernel_rfl)
  · intro ρ W ⟨p1, p2, p3⟩ hG hF K hK; (try simp only [FactsD, and_true] at hF); obtain he5_20 := hF; have hG2 := (Dr.drew A _).tr hG; have ⟨hc, hf, hz⟩ := hG2.cells; go_simp; exact hK _ Dw.gives_val
  refine Dw.chain_any (V := DI (fun r => 0 ≤ r ∧ r < 500)) (D := [(68, some 0)]) rfl (by kernel_rfl) (DI.lasts _) ?_ ?_
  · intro ρ W ⟨p1, p2, p3⟩ hG hF K hK; (try simp only [FactsD, List.getD_cons_zero, and_true] at hF); obtain he68_21 := hF; have hG2 := (Dr.drew A _).tr hG; have ⟨hc, hf, hz⟩ := hG2.cells; go_simp; exact hK _ (Dw.gives_rel (draw_rel (H3.out.grow hG2) (by omega) 500 (by omega) (by omega)))
  refine Dw.chain_any (V := DI (fun r => 2000 ≤ r ∧ r < 2500)) (D := [(69, some 0)]) rfl (by kernel_rfl) (DI.lasts _) ?_ ?_
  · intro ρ W ⟨p1, p2, p3⟩ hG hF K hK; (try simp only [FactsD, DI, List.getD_cons_zero, and_true] at hF); obtain ⟨r69, hr69, hp69⟩ := hF; have hG2 := (Dr.drew A _).tr hG; have ⟨hc, hf, hz⟩ := hG2.cells; go_simp; exact hK _ (DI.valw (by omega) (by omega) (by omega))
  apply Dw.chain_eq (D := [(5, none)]) rfl (by kernel_rfl)
  · intro ρ W ⟨p1, p2, p3⟩ hG hF K hK; (try simp only [FactsD, and_true] at hF); obtain he5_23 := hF; have hG2 := (Dr.drew A _).tr hG; have ⟨hc, hf, hz⟩ := hG2.cells; go_simp; exact hK _ Dw.gives_val
  refine Dw.chain_any (V := DI (fun r => 0 ≤ r ∧ r < 50000)) (D := [(71, some 0)]) rfl (by kernel_rfl) (DI.lasts _) ?_ ?_
  · intro ρ W ⟨p1, p2, p3⟩ hG hF K hK; (try simp only [FactsD, List.getD_cons_zero, and_true] at hF); obtain he71_24 := hF; have hG2 := (Dr.drew A _).tr hG; have ⟨hc, hf, hz⟩ := hG2.cells; go_simp; exact hK _ (Dw.gives_rel (draw_rel (H3.out.grow hG2) (by omega) 50000 (by omega) (by omega)))
  refine Dw.chain_any (V := DI (fun r => 50000 ≤ r ∧ r < 100000)) (D := [(72, some 0)]) rfl (by kernel_rfl) (DI.lasts _) ?_ ?_
  · intro ρ W ⟨p1, p2, p3⟩ hG hF K hK; (try simp only [FactsD, DI, List.getD_cons_zero, and_true] at hF); obtain ⟨r72, hr72, hp72⟩ := hF; have hG2 := (Dr.drew A _).tr hG; have ⟨hc, hf, hz⟩ := hG2.cells; go_simp; exact hK _ (DI.valw (by omega) (by omega) (by omega))
  refine Dw.chain_any (V := DP f ba) (D := [(56, some 17), (65, some 8), (67, some 6), (70, some 3), (73, some 0)]) rfl (by kernel_rfl) (DP.lasts _ _) ?_ ?_
  · intro ρ W ⟨p1, p2, p3⟩ hG hF K hK; (try simp only [FactsD, DI, DS, List.getD_cons_zero, List.getD_cons_succ, and_true] at hF); obtain ⟨⟨r56, q56, hr56, hp56⟩, ⟨r65, q65, hr65, hp65⟩, ⟨r67, hr67, hp67⟩, ⟨r70, hr70, hp70⟩, ⟨r73, hr73, hp73⟩⟩ := hF; have hG2 := (Dr.drew A _).tr hG; have ⟨hc, hf, hz⟩ := hG2.cells; go_simp; exact hK _ (⟨⟨_, _, _, _, _, _, _, rfl, by unfold PairNums; omega⟩, (Dr.same A W).le (Nat.zero_le _)⟩)
  refine Dw.chain_any (V := NewAt w3.heap.size [.int .i64 0, .int .i64 0, .int .i64 0, .int .i64 0, .int .i64 0, .int .i64 0, .int .i64 0, .slice none 0 0] 26) (D := []) rfl (by kernel_rfl) (NewAt.lasts (by omega) _ _) ?_ ?_
  · intro ρ W ⟨p1, p2, p3⟩ hG hF K hK; have hG2 := (Dr.drew A _).tr hG; have ⟨hc, hf, hz⟩ := hG2.cells; go_simp; exact hK _ (NewAt.gives hG2.size _ _)
  refine Dw.chain_done ?_
  intro vs W hG hV
  obtain ⟨⟨bp, e27, hbp, hbx⟩, ⟨fl, fh, bl, bh, ti, ne, fa, e26, hnum⟩, -⟩ := hV
  set_option maxRecDepth 100000 in
  simp only [lay, Act.put, List.getElem?_toArray, List.getElem?_cons_succ, List.getElem?_cons_zero, Option.bind_some, List.setIfInBounds_toArray, List.set_cons_succ, List.set_cons_zero]
  simp only [Nat.reduceSub] at e26
  simp only [Nat.reduceSub] at e27
  generalize vs 0 = v0
  generalize vs 1 = v1
  generalize vs 2 = v2
  generalize vs 3 = v3
  generalize vs 4 = v4
  generalize vs 5 = v5
  generalize vs 6 = v6
  generalize vs 7 = v7
  generalize vs 8 = v8
  generalize vs 9 = v9
  generalize vs 10 = v10
  generalize vs 11 = v11
  generalize vs 12 = v12
  generalize vs 13 = v13
  generalize vs 14 = v14
  generalize vs 15 = v15
  generalize vs 16 = v16
  generalize vs 17 = v17
  generalize vs 18 = v18
  generalize vs 19 = v19
  generalize vs 20 = v20
  generalize vs 21 = v21
  generalize vs 22 = v22
  generalize vs 23 = v23
  generalize vs 24 = v24
  generalize vs 25 = v25
  generalize vs 26 = v26 at *
  generalize vs 27 = v27 at *
  subst e26
  subst e27
  have hbpA : bp ≠ A := by omega
  have C4 := hbx.facts
  simp only [CellsFrom, Nat.zero_add, Nat.reduceAdd, and_true] at C4
  have F4 := hbx.free
  have hp0 : 5000 * 60 ≤ f * ba := Int.mul_le_mul hpf.1 hpb.1 (by omega) (by omega)
  have hp1 : f * ba ≤ 15000 * 100 := Int.mul_le_mul (by omega) (by omega) (by omega) (by omega)
  have efb : IntKind.i64.wrap (f * ba) = f * ba := wraps_i64 _ (by omega) (by omega)
  have efb2 : wrap64 (f * ba) = f * ba := IntWalk.wrap64_in _ ⟨by omega, by omega⟩
  obtain ⟨cn, hcn, hcn12⟩ : ∃ cn : Nat, th % 13 = cn ∧ cn ≤ 12 := ⟨(th % 13).toNat, by omega, by omega⟩
  go_upto_region 6 with fail
  have hdr : Dr A (1 * 28) w3 ((((((((W.setCell ⟨bp, 0, none⟩ (.int .i64 fl)).setCell ⟨bp, 1, none⟩ (.int .i64 fh)).setCell ⟨bp, 2, none⟩ (.int .i64 bl)).setCell ⟨bp, 3, none⟩ (.int .i64 bh)).setCell ⟨bp, 4, none⟩ (.int .i64 ti)).setCell ⟨bp, 5, none⟩ (.int .i64 ne)).setCell ⟨bp, 6, none⟩ (.int .i64 fa)).setCell ⟨bp, 7, none⟩ (.slice none 0 0)) := ((((((((hG.other hbp hbpA 0 _).other hbp hbpA 1 _).other hbp hbpA 2 _).other hbp hbpA 3 _).other hbp hbpA 4 _).other hbp hbpA 5 _).other hbp hbpA 6 _).other hbp hbpA 7 _)
  have hbx4 : Box ((((((((W.setCell ⟨bp, 0, none⟩ (.int .i64 fl)).setCell ⟨bp, 1, none⟩ (.int .i64 fh)).setCell ⟨bp, 2, none⟩ (.int .i64 bl)).setCell ⟨bp, 3, none⟩ (.int .i64 bh)).setCell ⟨bp, 4, none⟩ (.int .i64 ti)).setCell ⟨bp, 5, none⟩ (.int .i64 ne)).setCell ⟨bp, 6, none⟩ (.int .i64 fa)).setCell ⟨bp, 7, none⟩ (.slice none 0 0)) bp [.int .i64 fl, .int .i64 fh, .int .i64 bl, .int .i64 bh, .int .i64 ti, .int .i64 ne, .int .i64 fa, .slice none 0 0] 26 := ((((((((hbx.put 0 _).put 1 _).put 2 _).put 3 _).put 4 _).put 5 _).put 6 _).put 7 _)
  have hs4 : w3.heap.size ≤ ((((((((W.setCell ⟨bp, 0, none⟩ (.int .i64 fl)).setCell ⟨bp, 1, none⟩ (.int .i64 fh)).setCell ⟨bp, 2, none⟩ (.int .i64 bl)).setCell ⟨bp, 3, none⟩ (.int .i64 bh)).setCell ⟨bp, 4, none⟩ (.int .i64 ti)).setCell ⟨bp, 5, none⟩ (.int .i64 ne)).setCell ⟨bp, 6, none⟩ (.int .i64 fa)).setCell ⟨bp, 7, none⟩ (.slice none 0 0)).heap.size := hdr.size
  generalize ((((((((W.setCell ⟨bp, 0, none⟩ (.int .i64 fl)).setCell ⟨bp, 1, none⟩ (.int .i64 fh)).setCell ⟨bp, 2, none⟩ (.int .i64 bl)).setCell ⟨bp, 3, none⟩ (.int .i64 bh)).setCell ⟨bp, 4, none⟩ (.int .i64 ti)).setCell ⟨bp, 5, none⟩ (.int .i64 ne)).setCell ⟨bp, 6, none⟩ (.int .i64 fa)).setCell ⟨bp, 7, none⟩ (.slice none 0 0)) = w4 at *
  have H4 := Lib.hid ((H3.out.grow hdr).le (show _ ≤ 40 by omega))
  have HD4 := Lib.hid (hdr.box HD3.out hDA)
  have HB4 := Lib.hid (hdr.below HB3.out HB3.out.size hBA)
  have HX4 := Lib.hid hbx4
  have hbl4 := hbx4.lt
  clear hdr hbx4 hG hbx C4 F4 H3 HD3 HB3 c3
  have HNUM := Lib.hid hnum
  go_upto_block 0 with fail
  rw [hcn] at *
  go_cut [11, 12] (fun tv mv wx => ∃ (k : Nat) (l : List Th) (zs : List Int) (moved : Nat) (pv : Value), k ≤ 12 ∧ mv = .int .i64 (moved : Nat) ∧ Below w.heap.size w wx ∧ Rnd A w.heap.size D b o len cap bp w4.heap.size ⟨fl, fh, bl, bh, ti, ne, fa, l⟩ (f * ba) k zs moved pv tv wx)
  case first =>
    go_wp2_with fail
    go_loopw [11, 12, 82] (fun tv mv i wr => ∃ (k : Nat) (l : List Th) (zs : List Int) (moved : Nat) (pv : Value), k ≤ cn ∧ i = .int .i64 k ∧ mv = .int .i64 (moved : Nat) ∧ Below w.heap.size w wr ∧ Rnd A w.heap.size D b o len cap bp w4.heap.size ⟨fl, fh, bl, bh, ti, ne, fa, l⟩ (f * ba) k zs moved pv tv wr) (fun _ _ i _ => cn - (intOf i).toNat)
    case atStart => exact ⟨0, [], [], 0, .slice none 0 0, Nat.zero_le _, rfl, rfl, HB4.out, ⟨H4.out, HD4.out, HX4.out, World.ownsRow_nil _ _ _ _, World.ownsRow_nil _ _ _ _, fun q h => (by cases h), Nat.le_refl _, ⟨rfl, rfl⟩, by decide, fun i t z h => by simp at h⟩⟩
    case round =>
      obtain ⟨k, l, zs, moved, pv, hk, rfl, rfl, hbw, hrnd⟩ := hrel
      have HBW := Lib.hid hbw
      have HRND := Lib.hid hrnd
      clear hbw hrnd
      by_cases hlt : k < cn
      · obtain ⟨hdrw, hfn, hbox, hox, hoy, hdj, hsize, ⟨hll, hzl⟩, hmvd, hthings⟩ := HRND.out
        have hN0 : 40 + 6700 * k ≤ 73740 := by omega
        have HB := Lib.hid hbox
        have HF := Lib.hid hfn
        have HD0 := Lib.hid hdrw
        have cb := hbox.facts
        simp only [CellsFrom, Nat.zero_add, Nat.reduceAdd, and_true] at cb
        have cd := hfn.cell (i := 0) rfl
        have hfl := hfn.lt
        have hbl := hbox.lt
        have hbD : bp ≠ D := by omega
        unfold drawV at cd
        obtain ⟨⟨nf1, nf2, nf3, nf4⟩, ⟨nb1, nb2, nb3, nb4⟩, ⟨nt1, nt2⟩, ⟨nn1, nn2⟩, nfa1, nfa2⟩ := HNUM.out
        have efn : wrap64 (fa - ne) = fa - ne := IntWalk.wrap64_in _ ⟨by omega, by omega⟩
        have efn2 : IntKind.i64.wrap (fa - ne) = fa - ne := wraps_i64 _ (by omega) (by omega)
        clear hdrw hfn hbox hox hoy hdj hthings
        go_upto_region 13 with fail
        go_cut [14] (fun zv wx => ∃ z : Int, zv = .int .i64 z ∧ (ne ≤ z ∧ z ≤ fa) ∧ Dr A (1 * 18) wr wx)
        case first =>
          refine Dw.region2 (A := A) (κ := 1) 18 ?_ ?_ ?_
          · kernel_rfl
          · kernel_rfl
          simp only [List.take_succ_cons, List.take_zero, List.drop_succ_cons, List.drop_zero]
          apply Dw.chain_eq (D := [(8, none)]) rfl (by kernel_rfl)
          · intro ρ W ⟨p1, p2, p3⟩ hG hF K hK; (try simp only [FactsD, and_true] at hF); obtain he8_0 := hF; have hG2 := (Dr.drew A _).tr hG; have ⟨hc, hf, hz⟩ := hG2.cells; go_simp; exact hK _ Dw.gives_val
          apply Dw.chain_eq (D := [(85, some 0)]) rfl (by kernel_rfl)
          · intro ρ W ⟨p1, p2, p3⟩ hG hF K hK; (try simp only [FactsD, List.getD_cons_zero, and_true] at hF); obtain he85_1 := hF; have hG2 := (Dr.drew A _).tr hG; have ⟨hc, hf, hz⟩ := hG2.cells; go_simp; exact hK _ Dw.gives_val
          apply Dw.chain_eq (D := [(5, none)]) rfl (by kernel_rfl)
          · intro ρ W ⟨p1, p2, p3⟩ hG hF K hK; (try simp only [FactsD, and_true] at hF); obtain he5_2 := hF; have hG2 := (Dr.drew A _).tr hG; have ⟨hc, hf, hz⟩ := hG2.cells; go_simp; exact hK _ Dw.gives_val
          apply Dw.chain_eq (D := [(8, none)]) rfl (by kernel_rfl)
          · intro ρ W ⟨p1, p2, p3⟩ hG hF K hK; (try simp only [FactsD, and_true] at hF); obtain he8_3 := hF; have hG2 := (Dr.drew A _).tr hG; have ⟨hc, hf, hz⟩ := hG2.cells; go_simp; exact hK _ Dw.gives_val
          apply Dw.chain_eq (D := [(88, some 0)]) rfl (by kernel_rfl)
          · intro ρ W ⟨p1, p2, p3⟩ hG hF K hK; (try simp only [FactsD, List.getD_cons_zero, and_true] at hF); obtain he88_4 := hF; have hG2 := (Dr.drew A _).tr hG; have ⟨hc, hf, hz⟩ := hG2.cells; go_simp; exact hK _ Dw.gives_val
          apply Dw.chain_eq (D := [(8, none)]) rfl (by kernel_rfl)
          · intro ρ W ⟨p1, p2, p3⟩ hG hF K hK; (try simp only [FactsD, and_true] at hF); obtain he8_5 := hF; have hG2 := (Dr.drew A _).tr hG; have ⟨hc, hf, hz⟩ := hG2.cells; go_simp; exact hK _ Dw.gives_val
          apply Dw.chain_eq (D := [(90, some 0)]) rfl (by kernel_rfl)
          · intro ρ W ⟨p1, p2, p3⟩ hG hF K hK; (try simp only [FactsD, List.getD_cons_zero, and_true] at hF); obtain he90_6 := hF; have hG2 := (Dr.drew A _).tr hG; have ⟨hc, hf, hz⟩ := hG2.cells; go_simp; exact hK _ Dw.gives_val
          apply Dw.chain_eq (D := [(89, some 2), (91, some 0)]) rfl (by kernel_rfl)
          · intro ρ W ⟨p1, p2, p3⟩ hG hF K hK; (try simp only [FactsD, List.getD_cons_zero, List.getD_cons_succ, and_true] at hF); obtain ⟨he89_7, he91_7⟩ := hF; have hG2 := (Dr.drew A _).tr hG; have ⟨hc, hf, hz⟩ := hG2.cells; go_simp; exact hK _ Dw.gives_val
          apply Dw.chain_eq (D := [(5, none)]) rfl (by kernel_rfl)
          · intro ρ W ⟨p1, p2, p3⟩ hG hF K hK; (try simp only [FactsD, and_true] at hF); obtain he5_8 := hF; have hG2 := (Dr.drew A _).tr hG; have ⟨hc, hf, hz⟩ := hG2.cells; go_simp; exact hK _ Dw.gives_val
          refine Dw.chain_any (V := DI (fun r => 0 ≤ r ∧ r < 2)) (D := [(93, some 0)]) rfl (by kernel_rfl) (DI.lasts _) ?_ ?_
          · intro ρ W ⟨p1, p2, p3⟩ hG hF K hK; (try simp only [FactsD, List.getD_cons_zero, and_true] at hF); obtain he93_9 := hF; have hG2 := (Dr.drew A _).tr hG; have ⟨hc, hf, hz⟩ := hG2.cells; go_simp; exact hK _ (Dw.gives_rel (draw_rel2 (HD0.out.grow hG2) (by omega) 2 (by omega) (by omega) (fun r h1 h2 => by omega)))
          refine Dw.chain_any (V := DI (fun r => r = 1 ∨ r = 2)) (D := [(94, some 0)]) rfl (by kernel_rfl) (DI.lasts _) ?_ ?_
          · intro ρ W ⟨p1, p2, p3⟩ hG hF K hK; (try simp only [FactsD, DI, List.getD_cons_zero, and_true] at hF); obtain ⟨r94, hr94, hp94⟩ := hF; have hG2 := (Dr.drew A _).tr hG; have ⟨hc, hf, hz⟩ := hG2.cells; go_simp; exact hK _ (DI.valw (by omega) (by omega) (by omega))
          refine Dw.chain_any (V := DI (fun r => 0 ≤ r ∧ r ≤ 2 * (fa - ne))) (D := [(92, some 3), (95, some 0)]) rfl (by kernel_rfl) (DI.lasts _) ?_ ?_
          · intro ρ W ⟨p1, p2, p3⟩ hG hF K hK; (try simp only [FactsD, DI, List.getD_cons_zero, List.getD_cons_succ, and_true] at hF); obtain ⟨he92_11, ⟨r95, hr95, hp95⟩⟩ := hF; have hG2 := (Dr.drew A _).tr hG; have ⟨hc, hf, hz⟩ := hG2.cells; have hm9 : 0 ≤ (fa - ne) * r95 ∧ (fa - ne) * r95 ≤ 2 * (fa - ne) := (by rcases hp95 with e | e <;> rw [e] <;> omega); go_simp; exact hK _ (DI.valw (by omega) (by omega) (by omega))
          refine Dw.chain_any (V := DI (fun r => 0 ≤ r ∧ r ≤ fa - ne)) (D := [(96, some 0)]) rfl (by kernel_rfl) (DI.lasts _) ?_ ?_
          · intro ρ W ⟨p1, p2, p3⟩ hG hF K hK; (try simp only [FactsD, DI, List.getD_cons_zero, and_true] at hF); obtain ⟨r96, hr96, hp96⟩ := hF; have hG2 := (Dr.drew A _).tr hG; have ⟨hc, hf, hz⟩ := hG2.cells; have eq2 : IntKind.i64.wrap (r96.tdiv 2) = r96 / 2 := (by rw [Int.tdiv_eq_ediv_of_nonneg (by omega)]; exact wraps_i64 _ (by omega) (by omega)); go_simp; exact hK _ (DI.val (by omega))
          refine Dw.chain_any (V := DI (fun r => 0 ≤ r ∧ r ≤ fa - ne ∧ r ≤ 65000)) (D := [(97, some 0)]) rfl (by kernel_rfl) (DI.lasts _) ?_ ?_
          · intro ρ W ⟨p1, p2, p3⟩ hG hF K hK; (try simp only [FactsD, DI, List.getD_cons_zero, and_true] at hF); obtain ⟨r97, hr97, hp97⟩ := hF; have hG2 := (Dr.drew A _).tr hG; have ⟨hc, hf, hz⟩ := hG2.cells; go_simp; exact hK _ (DI.val (by split <;> omega))
          refine Dw.chain_any (V := DI (fun r => 1 ≤ r ∧ r ≤ fa - ne + 1 ∧ r ≤ 65001)) (D := [(98, some 0)]) rfl (by kernel_rfl) (DI.lasts _) ?_ ?_
          · intro ρ W ⟨p1, p2, p3⟩ hG hF K hK; (try simp only [FactsD, DI, List.getD_cons_zero, and_true] at hF); obtain ⟨r98, hr98, hp98⟩ := hF; have hG2 := (Dr.drew A _).tr hG; have ⟨hc, hf, hz⟩ := hG2.cells; go_simp; exact hK _ (DI.valw (by omega) (by omega) (by omega))
          refine Dw.chain_any (V := DI (fun r => 0 ≤ r ∧ r ≤ fa - ne)) (D := [(87, some 12), (99, some 0)]) rfl (by kernel_rfl) (DI.lasts _) ?_ ?_
          · intro ρ W ⟨p1, p2, p3⟩ hG hF K hK; (try simp only [FactsD, DI, List.getD_cons_zero, List.getD_cons_succ, and_true] at hF); obtain ⟨he87_15, ⟨r99, hr99, hp99⟩⟩ := hF; have hG2 := (Dr.drew A _).tr hG; have ⟨hc, hf, hz⟩ := hG2.cells; go_simp; exact hK _ (Dw.gives_rel (draw_rel2 (HD0.out.grow hG2) (by omega) r99 (by omega) (by omega) (fun r h1 h2 => by omega)))
          refine Dw.chain_any (V := DI (fun r => ne ≤ r ∧ r ≤ fa)) (D := [(86, some 14), (100, some 0)]) rfl (by kernel_rfl) (DI.lasts _) ?_ ?_
          · intro ρ W ⟨p1, p2, p3⟩ hG hF K hK; (try simp only [FactsD, DI, List.getD_cons_zero, List.getD_cons_succ, and_true] at hF); obtain ⟨he86_16, ⟨r100, hr100, hp100⟩⟩ := hF; have hG2 := (Dr.drew A _).tr hG; have ⟨hc, hf, hz⟩ := hG2.cells; go_simp; exact hK _ (DI.valw (by omega) (by omega) (by omega))
          refine Dw.chain_any (V := DI (fun r => ne ≤ r ∧ r ≤ fa)) (D := [(101, some 0)]) rfl (by kernel_rfl) (DI.lasts _) ?_ ?_
          · intro ρ W ⟨p1, p2, p3⟩ hG hF K hK; (try simp only [FactsD, DI, List.getD_cons_zero, and_true] at hF); obtain ⟨r101, hr101, hp101⟩ := hF; have hG2 := (Dr.drew A _).tr hG; have ⟨hc, hf, hz⟩ := hG2.cells; go_simp; exact hK _ (DI.val (by omega))
          refine Dw.chain_done ?_
          intro vs W hG hV
          obtain ⟨⟨z, e17, hpz⟩, -⟩ := hV
          set_option maxRecDepth 100000 in
          simp only [lay, Act.put, List.getElem?_toArray, List.getElem?_cons_succ, List.getElem?_cons_zero, Option.bind_some, List.setIfInBounds_toArray, List.set_cons_succ, List.set_cons_zero]
          simp only [Nat.reduceSub] at e17
          generalize vs 0 = v0
          generalize vs 1 = v1
          generalize vs 2 = v2
          generalize vs 3 = v3
          generalize vs 4 = v4
          generalize vs 5 = v5
          generalize vs 6 = v6
          generalize vs 7 = v7
          generalize vs 8 = v8
          generalize vs 9 = v9
          generalize vs 10 = v10
          generalize vs 11 = v11
          generalize vs 12 = v12
          generalize vs 13 = v13
          generalize vs 14 = v14
          generalize vs 15 = v15
          generalize vs 16 = v16
          generalize vs 17 = v17 at *
          subst e17
          go_wp2_with fail
          go_meet
          case rel =>
            exact ⟨z, rfl, hpz, hG⟩
        case rest =>
          obtain ⟨z, rfl, hpz, hG⟩ := hcut
          have HD1 := Lib.hid (HD0.out.grow hG)
          have HDR1 := Lib.hid hG
          have HF1 := Lib.hid (hG.box HF.out hDA)
          have HB1 := Lib.hid (hG.box HB.out hbpA)
          have hs1 := hG.size
          have hfl1 : D < wc.heap.size := by omega
          have hbl1 : bp < wc.heap.size := by omega
          have cb1 := HB1.out.facts
          simp only [CellsFrom, Nat.zero_add, Nat.reduceAdd, and_true] at cb1
          have cd1 := HF1.out.cell (i := 0) rfl
          unfold drawV at cd1
          have hz0 : ¬ z = 0 := by omega
          have eqz : IntKind.i64.wrap ((f * ba).tdiv z) = f * ba / z := by
            have q1 : 0 ≤ f * ba / z := Int.ediv_nonneg (by omega) (by omega)
            have q2 : f * ba / z ≤ f * ba := Int.ediv_le_self _ (by omega)
            rw [Int.tdiv_eq_ediv_of_nonneg (by omega)]
            exact wraps_i64 _ q1 (by omega)
          have hq0 : 0 ≤ f * ba / z := Int.ediv_nonneg (by omega) (by omega)
          have hq1 : f * ba / z ≤ 1000 := by
            have := Int.ediv_mul_le (f * ba) hz0
            apply Int.not_lt.1
            intro hc
            have h5 := Int.mul_le_mul (show 1001 ≤ f * ba / z by omega) (show 2000 ≤ z by omega) (by omega) (by omega)
            omega
          clear hG cb cd hfl hbl hs1
          generalize wc = wa at *
          go_upto_region 15 with fail
          go_cut [16, 17] (fun xv yv wx => ∃ x y : Int, xv = .int .i64 x ∧ yv = .int .i64 y ∧ (-500 ≤ x ∧ x < 500) ∧ (-500 ≤ y ∧ y < 500) ∧ Dr A (1 * 8) wa wx)
          case first =>
            refine Dw.region2 (A := A) (κ := 1) 8 ?_ ?_ ?_
            · kernel_rfl
            · kernel_rfl
            simp only [List.take_succ_cons, List.take_zero, List.drop_succ_cons, List.drop_zero]
            apply Dw.chain_eq (D := [(5, none)]) rfl (by kernel_rfl)
            · intro ρ W ⟨p1, p2, p3⟩ hG hF K hK; (try simp only [FactsD, and_true] at hF); obtain he5_0 := hF; have hG2 := (Dr.drew A _).tr hG; have ⟨hc, hf, hz⟩ := hG2.cells; go_simp; exact hK _ Dw.gives_val
            refine Dw.chain_any (V := DI (fun r => 0 ≤ r ∧ r < 1000)) (D := [(105, some 0)]) rfl (by kernel_rfl) (DI.lasts _) ?_ ?_
            · intro ρ W ⟨p1, p2, p3⟩ hG hF K hK; (try simp only [FactsD, List.getD_cons_zero, and_true] at hF); obtain he105_1 := hF; have hG2 := (Dr.drew A _).tr hG; have ⟨hc, hf, hz⟩ := hG2.cells; go_simp; exact hK _ (Dw.gives_rel (draw_rel2 (HD1.out.grow hG2) (by omega) 1000 (by omega) (by omega) (fun r h1 h2 => by omega)))
            refine Dw.chain_any (V := DI (fun r => -500 ≤ r ∧ r < 500)) (D := [(106, some 0)]) rfl (by kernel_rfl) (DI.lasts _) ?_ ?_
            · intro ρ W ⟨p1, p2, p3⟩ hG hF K hK; (try simp only [FactsD, DI, List.getD_cons_zero, and_true] at hF); obtain ⟨r106, hr106, hp106⟩ := hF; have hG2 := (Dr.drew A _).tr hG; have ⟨hc, hf, hz⟩ := hG2.cells; go_simp; exact hK _ (DI.valw (by omega) (by omega) (by omega))
            apply Dw.chain_eq (D := [(5, none)]) rfl (by kernel_rfl)
            · intro ρ W ⟨p1, p2, p3⟩ hG hF K hK; (try simp only [FactsD, and_true] at hF); obtain he5_3 := hF; have hG2 := (Dr.drew A _).tr hG; have ⟨hc, hf, hz⟩ := hG2.cells; go_simp; exact hK _ Dw.gives_val
            refine Dw.chain_any (V := DI (fun r => 0 ≤ r ∧ r < 1000)) (D := [(108, some 0)]) rfl (by kernel_rfl) (DI.lasts _) ?_ ?_
            · intro ρ W ⟨p1, p2, p3⟩ hG hF K hK; (try simp only [FactsD, List.getD_cons_zero, and_true] at hF); obtain he108_4 := hF; have hG2 := (Dr.drew A _).tr hG; have ⟨hc, hf, hz⟩ := hG2.cells; go_simp; exact hK _ (Dw.gives_rel (draw_rel2 (HD1.out.grow hG2) (by omega) 1000 (by omega) (by omega) (fun r h1 h2 => by omega)))
            refine Dw.chain_any (V := DI (fun r => -500 ≤ r ∧ r < 500)) (D := [(109, some 0)]) rfl (by kernel_rfl) (DI.lasts _) ?_ ?_
            · intro ρ W ⟨p1, p2, p3⟩ hG hF K hK; (try simp only [FactsD, DI, List.getD_cons_zero, and_true] at hF); obtain ⟨r109, hr109, hp109⟩ := hF; have hG2 := (Dr.drew A _).tr hG; have ⟨hc, hf, hz⟩ := hG2.cells; go_simp; exact hK _ (DI.valw (by omega) (by omega) (by omega))
            refine Dw.chain_any (V := DI (fun r => -500 ≤ r ∧ r < 500)) (D := [(107, some 3)]) rfl (by kernel_rfl) (DI.lasts _) ?_ ?_
            · intro ρ W ⟨p1, p2, p3⟩ hG hF K hK; (try simp only [FactsD, DI, List.getD_cons_zero, List.getD_cons_succ, and_true] at hF); obtain ⟨r107, hr107, hp107⟩ := hF; have hG2 := (Dr.drew A _).tr hG; have ⟨hc, hf, hz⟩ := hG2.cells; go_simp; exact hK _ (DI.val (by omega))
            refine Dw.chain_any (V := DI (fun r => -500 ≤ r ∧ r < 500)) (D := [(110, some 1)]) rfl (by kernel_rfl) (DI.lasts _) ?_ ?_
            · intro ρ W ⟨p1, p2, p3⟩ hG hF K hK; (try simp only [FactsD, DI, List.getD_cons_zero, List.getD_cons_succ, and_true] at hF); obtain ⟨r110, hr110, hp110⟩ := hF; have hG2 := (Dr.drew A _).tr hG; have ⟨hc, hf, hz⟩ := hG2.cells; go_simp; exact hK _ (DI.val (by omega))
            refine Dw.chain_done ?_
            intro vs W hG hV
            obtain ⟨⟨y, e7, hpy⟩, ⟨x, e6, hpx⟩, -⟩ := hV
            set_option maxRecDepth 100000 in
            simp only [lay, Act.put, List.getElem?_toArray, List.getElem?_cons_succ, List.getElem?_cons_zero, Option.bind_some, List.setIfInBounds_toArray, List.set_cons_succ, List.set_cons_zero]
            simp only [Nat.reduceSub] at e6
            simp only [Nat.reduceSub] at e7
            generalize vs 0 = v0
            generalize vs 1 = v1
            generalize vs 2 = v2
            generalize vs 3 = v3
            generalize vs 4 = v4
            generalize vs 5 = v5
            generalize vs 6 = v6 at *
            generalize vs 7 = v7 at *
            subst e6
            subst e7
            go_wp2_with fail
            go_meet
            case rel =>
              exact ⟨x, y, rfl, rfl, hpx, hpy, hG⟩
          case rest =>
            obtain ⟨x, y, rfl, rfl, hpx, hpy, hG⟩ := hcut
            have HD2 := Lib.hid (HD1.out.grow hG)
            have HDR2 := Lib.hid (HDR1.out.tr hG)
            have HF2 := Lib.hid (hG.box HF1.out hDA)
            have HB2 := Lib.hid (hG.box HB1.out hbpA)
            have hs2 := hG.size
            have hfl2 : D < wc.heap.size := by omega
            have hbl2 : bp < wc.heap.size := by omega
            have cb2 := HB2.out.facts
            simp only [CellsFrom, Nat.zero_add, Nat.reduceAdd, and_true] at cb2
            have cd2 := HF2.out.cell (i := 0) rfl
            unfold drawV at cd2
            clear hG cb1 cd1 hfl1 hbl1 hs2 HD1 HF1 HB1 HDR1
            generalize wc = wb at *
            generalize hsq : f * ba / z = sq at *
            have HSQ := Lib.hid hsq
            clear hsq eqz
            have hAb : A < wb.heap.size := by omega
            go_upto_region 16 with fail
            go_cut [18] (fun tv wx => ∃ (tp : Nat) (t : Th), tv = .pointer (some ⟨tp, 0, none⟩) ∧ wb.heap.size ≤ tp ∧ Box wx tp t.vals 47 ∧ t.z = 0 ∧ T16 x y sq ti t ∧ Dr A (100 * 28) wb wx)
            case first =>
              refine Dw.region2 (A := A) (κ := 100) 28 ?_ ?_ ?_
              · kernel_rfl
              · kernel_rfl
              simp only [List.take_succ_cons, List.take_zero, List.drop_succ_cons, List.drop_zero]
              apply Dw.chain_eq (D := [(10, none)]) rfl (by kernel_rfl)
              · intro ρ W ⟨p1, p2, p3⟩ hG hF K hK; (try simp only [FactsD, and_true] at hF); obtain he10_0 := hF; have hG2 := (Dr.drew A _).tr hG; have ⟨hc, hf, hz⟩ := hG2.cells; go_simp; exact hK _ Dw.gives_val
              apply Dw.chain_eq (D := [(16, none)]) rfl (by kernel_rfl)
              · intro ρ W ⟨p1, p2, p3⟩ hG hF K hK; (try simp only [FactsD, and_true] at hF); obtain he16_1 := hF; have hG2 := (Dr.drew A _).tr hG; have ⟨hc, hf, hz⟩ := hG2.cells; go_simp; exact hK _ Dw.gives_val
              refine Dw.chain_any (V := DS (fun u v => x - 4 < u ∧ u ≤ x ∧ x ≤ v ∧ v < x + 4)) (D := [(111, some 1), (112, some 0)]) rfl (by kernel_rfl) (DS.lasts _) ?_ ?_
              · intro ρ W ⟨p1, p2, p3⟩ hG hF K hK; (try simp only [FactsD, List.getD_cons_zero, List.getD_cons_succ, and_true] at hF); obtain ⟨he111_2, he112_2⟩ := hF; have hG2 := (Dr.drew A _).tr hG; have ⟨hc, hf, hz⟩ := hG2.cells; go_simp; exact hK _ (Dw.gives_rel (about_rel2 (HD2.out.grow hG2) (by omega) (hG2.box HF2.out hDA) hDA x 4 (by omega) (by omega) (fun u v h1 h2 h3 h4 => by omega)))
              apply Dw.chain_eq (D := [(10, none)]) rfl (by kernel_rfl)
              · intro ρ W ⟨p1, p2, p3⟩ hG hF K hK; (try simp only [FactsD, and_true] at hF); obtain he10_3 := hF; have hG2 := (Dr.drew A _).tr hG; have ⟨hc, hf, hz⟩ := hG2.cells; go_simp; exact hK _ Dw.gives_val
              apply Dw.chain_eq (D := [(17, none)]) rfl (by kernel_rfl)
              · intro ρ W ⟨p1, p2, p3⟩ hG hF K hK; (try simp only [FactsD, and_true] at hF); obtain he17_4 := hF; have hG2 := (Dr.drew A _).tr hG; have ⟨hc, hf, hz⟩ := hG2.cells; go_simp; exact hK _ Dw.gives_val
              refine Dw.chain_any (V := DS (fun u v => y - 4 < u ∧ u ≤ y ∧ y ≤ v ∧ v < y + 4)) (D := [(114, some 1), (115, some 0)]) rfl (by kernel_rfl) (DS.lasts _) ?_ ?_
              · intro ρ W ⟨p1, p2, p3⟩ hG hF K hK; (try simp only [FactsD, List.getD_cons_zero, List.getD_cons_succ, and_true] at hF); obtain ⟨he114_5, he115_5⟩ := hF; have hG2 := (Dr.drew A _).tr hG; have ⟨hc, hf, hz⟩ := hG2.cells; go_simp; exact hK _ (Dw.gives_rel (about_rel2 (HD2.out.grow hG2) (by omega) (hG2.box HF2.out hDA) hDA y 4 (by omega) (by omega) (fun u v h1 h2 h3 h4 => by omega)))
              refine Dw.chain_any (V := DQ (fun a b c d => (x - 4 < a ∧ a ≤ x ∧ x ≤ b ∧ b < x + 4) ∧ (y - 4 < c ∧ c ≤ y ∧ y ≤ d ∧ d < y + 4))) (D := [(113, some 3), (116, some 0)]) rfl (by kernel_rfl) (DQ.lasts _) ?_ ?_
              · intro ρ W ⟨p1, p2, p3⟩ hG hF K hK; (try simp only [FactsD, DS, List.getD_cons_zero, List.getD_cons_succ, and_true] at hF); obtain ⟨⟨r113, q113, hr113, hp113⟩, ⟨r116, q116, hr116, hp116⟩⟩ := hF; have hG2 := (Dr.drew A _).tr hG; have ⟨hc, hf, hz⟩ := hG2.cells; go_simp; exact hK _ (⟨⟨_, _, _, _, rfl, by omega⟩, (Dr.same A W).le (Nat.zero_le _)⟩)
              apply Dw.chain_eq (D := [(10, none)]) rfl (by kernel_rfl)
              · intro ρ W ⟨p1, p2, p3⟩ hG hF K hK; (try simp only [FactsD, and_true] at hF); obtain he10_7 := hF; have hG2 := (Dr.drew A _).tr hG; have ⟨hc, hf, hz⟩ := hG2.cells; go_simp; exact hK _ Dw.gives_val
              apply Dw.chain_eq (D := [(16, none)]) rfl (by kernel_rfl)
              · intro ρ W ⟨p1, p2, p3⟩ hG hF K hK; (try simp only [FactsD, and_true] at hF); obtain he16_8 := hF; have hG2 := (Dr.drew A _).tr hG; have ⟨hc, hf, hz⟩ := hG2.cells; go_simp; exact hK _ Dw.gives_val
              apply Dw.chain_eq (D := [(15, none)]) rfl (by kernel_rfl)
              · intro ρ W ⟨p1, p2, p3⟩ hG hF K hK; (try simp only [FactsD, and_true] at hF); obtain he15_9 := hF; have hG2 := (Dr.drew A _).tr hG; have ⟨hc, hf, hz⟩ := hG2.cells; go_simp; exact hK _ Dw.gives_val
              refine Dw.chain_any (V := DI (fun r => r = x - sq)) (D := [(119, some 1), (120, some 0)]) rfl (by kernel_rfl) (DI.lasts _) ?_ ?_
              · intro ρ W ⟨p1, p2, p3⟩ hG hF K hK; (try simp only [FactsD, List.getD_cons_zero, List.getD_cons_succ, and_true] at hF); obtain ⟨he119_10, he120_10⟩ := hF; have hG2 := (Dr.drew A _).tr hG; have ⟨hc, hf, hz⟩ := hG2.cells; go_simp; exact hK _ (DI.valw (by omega) (by omega) (by omega))
              refine Dw.chain_any (V := DS (fun u v => x - sq - 4 < u ∧ u ≤ x - sq ∧ x - sq ≤ v ∧ v < x - sq + 4)) (D := [(118, some 3), (121, some 0)]) rfl (by kernel_rfl) (DS.lasts _) ?_ ?_
              · intro ρ W ⟨p1, p2, p3⟩ hG hF K hK; (try simp only [FactsD, DI, List.getD_cons_zero, List.getD_cons_succ, and_true] at hF); obtain ⟨he118_11, ⟨r121, hr121, hp121⟩⟩ := hF; have hG2 := (Dr.drew A _).tr hG; have ⟨hc, hf, hz⟩ := hG2.cells; subst hp121; go_simp; exact hK _ (Dw.gives_rel (about_rel2 (HD2.out.grow hG2) (by omega) (hG2.box HF2.out hDA) hDA (x - sq) 4 (by omega) (by omega) (fun u v h1 h2 h3 h4 => by omega)))
              apply Dw.chain_eq (D := [(10, none)]) rfl (by kernel_rfl)
              · intro ρ W ⟨p1, p2, p3⟩ hG hF K hK; (try simp only [FactsD, and_true] at hF); obtain he10_12 := hF; have hG2 := (Dr.drew A _).tr hG; have ⟨hc, hf, hz⟩ := hG2.cells; go_simp; exact hK _ Dw.gives_val
              apply Dw.chain_eq (D := [(17, none)]) rfl (by kernel_rfl)
              · intro ρ W ⟨p1, p2, p3⟩ hG hF K hK; (try simp only [FactsD, and_true] at hF); obtain he17_13 := hF; have hG2 := (Dr.drew A _).tr hG; have ⟨hc, hf, hz⟩ := hG2.cells; go_simp; exact hK _ Dw.gives_val
              apply Dw.chain_eq (D := [(5, none)]) rfl (by kernel_rfl)
              · intro ρ W ⟨p1, p2, p3⟩ hG hF K hK; (try simp only [FactsD, and_true] at hF); obtain he5_14 := hF; have hG2 := (Dr.drew A _).tr hG; have ⟨hc, hf, hz⟩ := hG2.cells; go_simp; exact hK _ Dw.gives_val
              apply Dw.chain_eq (D := [(8, none)]) rfl (by kernel_rfl)
              · intro ρ W ⟨p1, p2, p3⟩ hG hF K hK; (try simp only [FactsD, and_true] at hF); obtain he8_15 := hF; have hG2 := (Dr.drew A _).tr hG; have ⟨hc, hf, hz⟩ := hG2.cells; go_simp; exact hK _ Dw.gives_val
              apply Dw.chain_eq (D := [(126, some 0)]) rfl (by kernel_rfl)
              · intro ρ W ⟨p1, p2, p3⟩ hG hF K hK; (try simp only [FactsD, List.getD_cons_zero, and_true] at hF); obtain he126_16 := hF; have hG2 := (Dr.drew A _).tr hG; have ⟨hc, hf, hz⟩ := hG2.cells; go_simp; exact hK _ Dw.gives_val
              refine Dw.chain_any (V := DI (fun r => r = 2 * ti)) (D := [(127, some 0)]) rfl (by kernel_rfl) (DI.lasts _) ?_ ?_
              · intro ρ W ⟨p1, p2, p3⟩ hG hF K hK; (try simp only [FactsD, List.getD_cons_zero, and_true] at hF); obtain he127_17 := hF; have hG2 := (Dr.drew A _).tr hG; have ⟨hc, hf, hz⟩ := hG2.cells; go_simp; exact hK _ (DI.valw (by omega) (by omega) (by omega))
              refine Dw.chain_any (V := DI (fun r => r = 2 * ti + 1)) (D := [(128, some 0)]) rfl (by kernel_rfl) (DI.lasts _) ?_ ?_
              · intro ρ W ⟨p1, p2, p3⟩ hG hF K hK; (try simp only [FactsD, DI, List.getD_cons_zero, and_true] at hF); obtain ⟨r128, hr128, hp128⟩ := hF; have hG2 := (Dr.drew A _).tr hG; have ⟨hc, hf, hz⟩ := hG2.cells; subst hp128; go_simp; exact hK _ (DI.valw (by omega) (by omega) (by omega))
              refine Dw.chain_any (V := DI (fun r => 0 ≤ r ∧ r ≤ 2 * ti)) (D := [(125, some 4), (129, some 0)]) rfl (by kernel_rfl) (DI.lasts _) ?_ ?_
              · intro ρ W ⟨p1, p2, p3⟩ hG hF K hK; (try simp only [FactsD, DI, List.getD_cons_zero, List.getD_cons_succ, and_true] at hF); obtain ⟨he125_19, ⟨r129, hr129, hp129⟩⟩ := hF; have hG2 := (Dr.drew A _).tr hG; have ⟨hc, hf, hz⟩ := hG2.cells; subst hp129; go_simp; exact hK _ (Dw.gives_rel (draw_rel3 (HD2.out.grow hG2) (by omega) (2 * ti + 1) (by omega) (by omega) (fun r h1 h2 => by omega)))
              refine Dw.chain_any (V := DI (fun r => y ≤ r ∧ r ≤ y + 2 * ti)) (D := [(124, some 6), (130, some 0)]) rfl (by kernel_rfl) (DI.lasts _) ?_ ?_
              · intro ρ W ⟨p1, p2, p3⟩ hG hF K hK; (try simp only [FactsD, DI, List.getD_cons_zero, List.getD_cons_succ, and_true] at hF); obtain ⟨he124_20, ⟨r130, hr130, hp130⟩⟩ := hF; have hG2 := (Dr.drew A _).tr hG; have ⟨hc, hf, hz⟩ := hG2.cells; go_simp; exact hK _ (DI.valw (by omega) (by omega) (by omega))
              apply Dw.chain_eq (D := [(8, none)]) rfl (by kernel_rfl)
              · intro ρ W ⟨p1, p2, p3⟩ hG hF K hK; (try simp only [FactsD, and_true] at hF); obtain he8_21 := hF; have hG2 := (Dr.drew A _).tr hG; have ⟨hc, hf, hz⟩ := hG2.cells; go_simp; exact hK _ Dw.gives_val
              apply Dw.chain_eq (D := [(132, some 0)]) rfl (by kernel_rfl)
              · intro ρ W ⟨p1, p2, p3⟩ hG hF K hK; (try simp only [FactsD, List.getD_cons_zero, and_true] at hF); obtain he132_22 := hF; have hG2 := (Dr.drew A _).tr hG; have ⟨hc, hf, hz⟩ := hG2.cells; go_simp; exact hK _ Dw.gives_val
              refine Dw.chain_any (V := DI (fun r => y - ti ≤ r ∧ r ≤ y + ti)) (D := [(131, some 2), (133, some 0)]) rfl (by kernel_rfl) (DI.lasts _) ?_ ?_
              · intro ρ W ⟨p1, p2, p3⟩ hG hF K hK; (try simp only [FactsD, DI, List.getD_cons_zero, List.getD_cons_succ, and_true] at hF); obtain ⟨⟨r131, hr131, hp131⟩, he133_23⟩ := hF; have hG2 := (Dr.drew A _).tr hG; have ⟨hc, hf, hz⟩ := hG2.cells; go_simp; exact hK _ (DI.valw (by omega) (by omega) (by omega))
              refine Dw.chain_any (V := DS (fun u v => y - ti - 4 < u ∧ u ≤ y + ti ∧ y - ti ≤ v ∧ v < y + ti + 4 ∧ u ≤ v)) (D := [(123, some 11), (134, some 0)]) rfl (by kernel_rfl) (DS.lasts _) ?_ ?_
              · intro ρ W ⟨p1, p2, p3⟩ hG hF K hK; (try simp only [FactsD, DI, List.getD_cons_zero, List.getD_cons_succ, and_true] at hF); obtain ⟨he123_24, ⟨r134, hr134, hp134⟩⟩ := hF; have hG2 := (Dr.drew A _).tr hG; have ⟨hc, hf, hz⟩ := hG2.cells; go_simp; exact hK _ (Dw.gives_rel (about_rel2 (HD2.out.grow hG2) (by omega) (hG2.box HF2.out hDA) hDA r134 4 (by omega) (by omega) (fun u v h1 h2 h3 h4 => by omega)))
              refine Dw.chain_any (V := DQ (fun a b c d => (x - sq - 4 < a ∧ a ≤ x - sq ∧ x - sq ≤ b ∧ b < x - sq + 4) ∧ (y - ti - 4 < c ∧ c ≤ y + ti ∧ y - ti ≤ d ∧ d < y + ti + 4 ∧ c ≤ d))) (D := [(122, some 13), (135, some 0)]) rfl (by kernel_rfl) (DQ.lasts _) ?_ ?_
              · intro ρ W ⟨p1, p2, p3⟩ hG hF K hK; (try simp only [FactsD, DS, List.getD_cons_zero, List.getD_cons_succ, and_true] at hF); obtain ⟨⟨r122, q122, hr122, hp122⟩, ⟨r135, q135, hr135, hp135⟩⟩ := hF; have hG2 := (Dr.drew A _).tr hG; have ⟨hc, hf, hz⟩ := hG2.cells; go_simp; exact hK _ (⟨⟨_, _, _, _, rfl, by omega⟩, (Dr.same A W).le (Nat.zero_le _)⟩)
              refine Dw.chain_any (V := DT (fun t => ((x - 4 < t.a ∧ t.a ≤ x ∧ x ≤ t.b ∧ t.b < x + 4) ∧ (y - 4 < t.c ∧ t.c ≤ y ∧ y ≤ t.d ∧ t.d < y + 4)) ∧ (x - sq - 4 < t.e ∧ t.e ≤ x - sq ∧ x - sq ≤ t.f ∧ t.f < x - sq + 4) ∧ (y - ti - 4 < t.g ∧ t.g ≤ y + ti ∧ y - ti ≤ t.h ∧ t.h < y + ti + 4 ∧ t.g ≤ t.h))) (D := [(117, some 19), (136, some 0)]) rfl (by kernel_rfl) (DT.lasts _) ?_ ?_
              · intro ρ W ⟨p1, p2, p3⟩ hG hF K hK; (try simp only [FactsD, List.getD_cons_zero, List.getD_cons_succ, and_true] at hF); obtain ⟨⟨qa, qb, qc, qd, hr117, hp117⟩, ⟨qe, qf, qg, qh, hr136, hp136⟩⟩ := hF; have hG2 := (Dr.drew A _).tr hG; have ⟨hc, hf, hz⟩ := hG2.cells; go_simp; exact hK _ (⟨⟨_, _, _, _, _, _, _, _, rfl, hp117, hp136⟩, (Dr.same A W).le (Nat.zero_le _)⟩)
              refine Dw.chain_any (V := NewAt wb.heap.size [.int .i64 0, .int .i64 0, .int .i64 0, .int .i64 0, .int .i64 0, .int .i64 0, .int .i64 0, .int .i64 0, .int .i64 0] 47) (D := []) rfl (by kernel_rfl) (NewAt.lasts (by omega) _ _) ?_ ?_
              · intro ρ W ⟨p1, p2, p3⟩ hG hF K hK; have hG2 := (Dr.drew A _).tr hG; have ⟨hc, hf, hz⟩ := hG2.cells; go_simp; exact hK _ (NewAt.gives hG2.size _ _)
              refine Dw.chain_done ?_
              intro vs W hG hV
              obtain ⟨⟨tp, e27, htpn, htx⟩, ⟨xa, xb, xc, xd, xe, xf, xg, xh, e26, htp⟩, -⟩ := hV
              set_option maxRecDepth 100000 in
              simp only [lay, Act.put, List.getElem?_toArray, List.getElem?_cons_succ, List.getElem?_cons_zero, Option.bind_some, List.setIfInBounds_toArray, List.set_cons_succ, List.set_cons_zero]
              simp only [Nat.reduceSub] at e26
              simp only [Nat.reduceSub] at e27
              generalize vs 0 = v0
              generalize vs 1 = v1
              generalize vs 2 = v2
              generalize vs 3 = v3
              generalize vs 4 = v4
              generalize vs 5 = v5
              generalize vs 6 = v6
              generalize vs 7 = v7
              generalize vs 8 = v8
              generalize vs 9 = v9
              generalize vs 10 = v10
              generalize vs 11 = v11
              generalize vs 12 = v12
              generalize vs 13 = v13
              generalize vs 14 = v14
              generalize vs 15 = v15
              generalize vs 16 = v16
              generalize vs 17 = v17
              generalize vs 18 = v18
              generalize vs 19 = v19
              generalize vs 20 = v20
              generalize vs 21 = v21
              generalize vs 22 = v22
              generalize vs 23 = v23
              generalize vs 24 = v24
              generalize vs 25 = v25
              generalize vs 26 = v26 at *
              generalize vs 27 = v27 at *
              subst e26
              subst e27
              have htpA : tp ≠ A := by omega
              have T4 := htx.facts
              simp only [CellsFrom, Nat.zero_add, Nat.reduceAdd, and_true] at T4
              have FT := htx.free
              go_wp2_with fail
              go_meet
              case rel =>
                exact ⟨tp, ⟨xa, xb, xc, xd, xe, xf, xg, xh, 0⟩, rfl, htpn, (((((((((htx.put 0 _).put 1 _).put 2 _).put 3 _).put 4 _).put 5 _).put 6 _).put 7 _).put 8 _), rfl, htp, (((((((((hG.other htpn htpA 0 _).other htpn htpA 1 _).other htpn htpA 2 _).other htpn htpA 3 _).other htpn htpA 4 _).other htpn htpA 5 _).other htpn htpA 6 _).other htpn htpA 7 _).other htpn htpA 8 _)⟩
            case rest =>
              obtain ⟨tp, th0, rfl, htpn, htx, hth0, htp, hG⟩ := hcut
              have HD3 := Lib.hid (HD2.out.grow hG)
              have HGA := Lib.hid hG
              have HF3 := Lib.hid (hG.box HF2.out hDA)
              have HB3 := Lib.hid (hG.box HB2.out hbpA)
              have hs3 := hG.size
              have hfl3 : D < wc.heap.size := by omega
              have hbl3 : bp < wc.heap.size := by omega
              have cd3 := HF3.out.cell (i := 0) rfl
              unfold drawV at cd3
              have htpA : tp ≠ A := by omega
              have htpD : tp ≠ D := by omega
              have htpb : tp ≠ bp := by omega
              have hTb : bp < tp := by omega
              have hTl := htx.lt
              have HTX := Lib.hid htx
              have HTP := Lib.hid htp
              have HTH := Lib.hid hth0
              have hk12 : k < 12 := by omega
              have hmd : moved < 4096 := by
                have h2 := Nat.pow_le_pow_right (n := 2) (by omega) (show k ≤ 12 by omega)
                have h3 : (2 : Nat) ^ 12 = 4096 := rfl
                omega
              have hmd2 : moved < 2 ^ (k + 1) := by rw [Nat.pow_succ]; omega
              clear hG cb2 cd2 hfl2 hbl2 hs3 htx htp hth0
              generalize wc = wd at *
              go_wp2_with fail
              refine (draw_any HD3.out (by omega) 4 (by omega) (by omega)).mono ?_
              rintro e we ⟨⟨r, rfl, hr0, hr1⟩, hge⟩
              have HD4 := Lib.hid ((HD3.out.grow hge).le (Nat.le_refl _))
              have HGB := Lib.hid (HGA.out.tr hge)
              have HF4 := Lib.hid (hge.box HF3.out hDA)
              have HB4' := Lib.hid (hge.box HB3.out hbpA)
              have HT4 := Lib.hid (hge.box HTX.out htpA)
              have hs4 := hge.size
              have hTl4 := HT4.out.lt
              have hfl4 := HF4.out.lt
              have hbl4' := HB4'.out.lt
              have cd4 := HF4.out.cell (i := 0) rfl
              unfold drawV at cd4

              clear hge cd3 hfl3 hbl3 hTl hs4 HD3 HF3 HB3 HTX HGA
              go_upto_block 2 with fail
              go_cut [12, 139] (fun mv _ wx => ∃ (t : Th) (md : Nat), mv = .int .i64 (md : Nat) ∧ Box wx tp t.vals 47 ∧ Dr A 4100 wb wx ∧ md < 2 ^ (k + 1) ∧ (∀ j, j < k → md.testBit j = moved.testBit j) ∧ Th.valid ne fa t = true ∧ (md.testBit k = false → Tr ti ne fa (f * ba) t z) ∧ (md.testBit k = true → t.z = 0))
              case first =>
                rcases (show r = 0 ∨ r = 1 ∨ 2 ≤ r by omega) with hr | hr | hr
                · have r0 : (r == 0) = true := by simpa using hr
                  have hmk : moved.testBit k = false := Nat.testBit_lt_two_pow HRND.out.mvd
                  have T4 := HT4.out.facts
                  have FT := HT4.out.free
                  simp only [Th.vals, CellsFrom, Nat.zero_add, Nat.reduceAdd, and_true] at T4
                  go_wp2_with fail
                  go_meet
                  case rel =>
                    exact ⟨{ th0 with z := z }, moved, rfl, HT4.out.put 8 _, (HGB.out.other htpn htpA 8 _).le (by omega), hmd2, fun _ _ => rfl, T16.valid (t := { th0 with z := z }) (z := z) HTP.out hpx hpy ⟨hq0, hq1⟩ ⟨nt1, nt2⟩ (.inr rfl) hpz, fun _ => T16.tr (t := { th0 with z := z }) HTP.out HSQ.out (.inr rfl) hpz, fun c => by rw [hmk] at c; cases c⟩
                · have r0 : (r == 0) = false := by simp; omega
                  have r1 : (r == 1) = true := by simpa using hr
                  have hmk : moved.testBit k = false := Nat.testBit_lt_two_pow HRND.out.mvd
                  have hor := or_set moved k hmd hk12
                  have hkk : k < 64 := by omega
                  go_wp2_with fail
                  refine Dw.region2 (A := A) (κ := 100) 12 ?_ ?_ ?_
                  · kernel_rfl
                  · kernel_rfl
                  simp only [List.take_succ_cons, List.take_zero, List.drop_succ_cons, List.drop_zero]
                  apply Dw.chain_eq (D := [(10, none)]) rfl (by kernel_rfl)
                  · intro ρ W ⟨p1, p2, p3⟩ hG hF K hK; (try simp only [FactsD, and_true] at hF); obtain he10_0 := hF; have hG2 := (Dr.drew A _).tr hG; have ⟨hc, hf, hz⟩ := hG2.cells; go_simp; exact hK _ Dw.gives_val
                  apply Dw.chain_eq (D := [(5, none)]) rfl (by kernel_rfl)
                  · intro ρ W ⟨p1, p2, p3⟩ hG hF K hK; (try simp only [FactsD, and_true] at hF); obtain he5_1 := hF; have hG2 := (Dr.drew A _).tr hG; have ⟨hc, hf, hz⟩ := hG2.cells; go_simp; exact hK _ Dw.gives_val
                  refine Dw.chain_any (V := DI (fun r => 0 ≤ r ∧ r < 1000)) (D := [(147, some 0)]) rfl (by kernel_rfl) (DI.lasts _) ?_ ?_
                  · intro ρ W ⟨p1, p2, p3⟩ hG hF K hK; (try simp only [FactsD, List.getD_cons_zero, and_true] at hF); obtain he147_2 := hF; have hG2 := (Dr.drew A _).tr hG; have ⟨hc, hf, hz⟩ := hG2.cells; go_simp; exact hK _ (Dw.gives_rel (draw_rel3 (HD4.out.grow hG2) (by omega) 1000 (by omega) (by omega) (fun r h1 h2 => by omega)))
                  refine Dw.chain_any (V := DI (fun r => -500 ≤ r ∧ r < 500)) (D := [(148, some 0)]) rfl (by kernel_rfl) (DI.lasts _) ?_ ?_
                  · intro ρ W ⟨p1, p2, p3⟩ hG hF K hK; (try simp only [FactsD, DI, List.getD_cons_zero, and_true] at hF); obtain ⟨r148, hr148, hp148⟩ := hF; have hG2 := (Dr.drew A _).tr hG; have ⟨hc, hf, hz⟩ := hG2.cells; go_simp; exact hK _ (DI.valw (by omega) (by omega) (by omega))
                  refine Dw.chain_any (V := DS (fun u v => -504 < u ∧ u ≤ v ∧ v < 504)) (D := [(146, some 3), (149, some 0)]) rfl (by kernel_rfl) (DS.lasts _) ?_ ?_
                  · intro ρ W ⟨p1, p2, p3⟩ hG hF K hK; (try simp only [FactsD, DI, List.getD_cons_zero, List.getD_cons_succ, and_true] at hF); obtain ⟨he146_4, ⟨r149, hr149, hp149⟩⟩ := hF; have hG2 := (Dr.drew A _).tr hG; have ⟨hc, hf, hz⟩ := hG2.cells; go_simp; exact hK _ (Dw.gives_rel (about_rel2 (HD4.out.grow hG2) (by omega) (hG2.box HF4.out hDA) hDA r149 4 (by omega) (by omega) (fun u v h1 h2 h3 h4 => by omega)))
                  apply Dw.chain_eq (D := [(10, none)]) rfl (by kernel_rfl)
                  · intro ρ W ⟨p1, p2, p3⟩ hG hF K hK; (try simp only [FactsD, and_true] at hF); obtain he10_5 := hF; have hG2 := (Dr.drew A _).tr hG; have ⟨hc, hf, hz⟩ := hG2.cells; go_simp; exact hK _ Dw.gives_val
                  apply Dw.chain_eq (D := [(5, none)]) rfl (by kernel_rfl)
                  · intro ρ W ⟨p1, p2, p3⟩ hG hF K hK; (try simp only [FactsD, and_true] at hF); obtain he5_6 := hF; have hG2 := (Dr.drew A _).tr hG; have ⟨hc, hf, hz⟩ := hG2.cells; go_simp; exact hK _ Dw.gives_val
                  refine Dw.chain_any (V := DI (fun r => 0 ≤ r ∧ r < 1000)) (D := [(152, some 0)]) rfl (by kernel_rfl) (DI.lasts _) ?_ ?_
                  · intro ρ W ⟨p1, p2, p3⟩ hG hF K hK; (try simp only [FactsD, List.getD_cons_zero, and_true] at hF); obtain he152_7 := hF; have hG2 := (Dr.drew A _).tr hG; have ⟨hc, hf, hz⟩ := hG2.cells; go_simp; exact hK _ (Dw.gives_rel (draw_rel3 (HD4.out.grow hG2) (by omega) 1000 (by omega) (by omega) (fun r h1 h2 => by omega)))
                  refine Dw.chain_any (V := DI (fun r => -500 ≤ r ∧ r < 500)) (D := [(153, some 0)]) rfl (by kernel_rfl) (DI.lasts _) ?_ ?_
                  · intro ρ W ⟨p1, p2, p3⟩ hG hF K hK; (try simp only [FactsD, DI, List.getD_cons_zero, and_true] at hF); obtain ⟨r153, hr153, hp153⟩ := hF; have hG2 := (Dr.drew A _).tr hG; have ⟨hc, hf, hz⟩ := hG2.cells; go_simp; exact hK _ (DI.valw (by omega) (by omega) (by omega))
                  refine Dw.chain_any (V := DS (fun u v => -504 < u ∧ u ≤ v ∧ v < 504)) (D := [(151, some 3), (154, some 0)]) rfl (by kernel_rfl) (DS.lasts _) ?_ ?_
                  · intro ρ W ⟨p1, p2, p3⟩ hG hF K hK; (try simp only [FactsD, DI, List.getD_cons_zero, List.getD_cons_succ, and_true] at hF); obtain ⟨he151_9, ⟨r154, hr154, hp154⟩⟩ := hF; have hG2 := (Dr.drew A _).tr hG; have ⟨hc, hf, hz⟩ := hG2.cells; go_simp; exact hK _ (Dw.gives_rel (about_rel2 (HD4.out.grow hG2) (by omega) (hG2.box HF4.out hDA) hDA r154 4 (by omega) (by omega) (fun u v h1 h2 h3 h4 => by omega)))
                  refine Dw.chain_any (V := DQ (fun a b c d => (-504 < a ∧ a ≤ b ∧ b < 504) ∧ (-504 < c ∧ c ≤ d ∧ d < 504))) (D := [(150, some 5), (155, some 0)]) rfl (by kernel_rfl) (DQ.lasts _) ?_ ?_
                  · intro ρ W ⟨p1, p2, p3⟩ hG hF K hK; (try simp only [FactsD, DS, List.getD_cons_zero, List.getD_cons_succ, and_true] at hF); obtain ⟨⟨r150, q150, hr150, hp150⟩, ⟨r155, q155, hr155, hp155⟩⟩ := hF; have hG2 := (Dr.drew A _).tr hG; have ⟨hc, hf, hz⟩ := hG2.cells; go_simp; exact hK _ (⟨⟨_, _, _, _, rfl, by omega⟩, (Dr.same A W).le (Nat.zero_le _)⟩)
                  apply Dw.chain_eq (D := [(18, none)]) rfl (by kernel_rfl)
                  · intro ρ W ⟨p1, p2, p3⟩ hG hF K hK; (try simp only [FactsD, and_true] at hF); obtain he18_11 := hF; have hG2 := (Dr.drew A _).tr hG; have ⟨hc, hf, hz⟩ := hG2.cells; go_simp; exact hK _ Dw.gives_val
                  refine Dw.chain_done ?_
                  intro vs W hG hV
                  obtain ⟨e11, ⟨xe, xf, xg, xh, e10, htn⟩, -⟩ := hV
                  set_option maxRecDepth 100000 in
                  simp only [lay, Act.put, List.getElem?_toArray, List.getElem?_cons_succ, List.getElem?_cons_zero, Option.bind_some, List.setIfInBounds_toArray, List.set_cons_succ, List.set_cons_zero]
                  simp only [Nat.reduceSub] at e10
                  simp only [Nat.reduceSub] at e11
                  generalize vs 0 = v0
                  generalize vs 1 = v1
                  generalize vs 2 = v2
                  generalize vs 3 = v3
                  generalize vs 4 = v4
                  generalize vs 5 = v5
                  generalize vs 6 = v6
                  generalize vs 7 = v7
                  generalize vs 8 = v8
                  generalize vs 9 = v9
                  generalize vs 10 = v10 at *
                  generalize vs 11 = v11 at *
                  subst e10
                  subst e11
                  have HT5 := Lib.hid (hG.box HT4.out htpA)
                  have HG5 := Lib.hid (HGB.out.tr hG)
                  have T5 := HT5.out.facts
                  have FT := HT5.out.free
                  simp only [Th.vals, CellsFrom, Nat.zero_add, Nat.reduceAdd, and_true] at T5
                  clear hG
                  go_wp2_with fail
                  go_meet
                  case rel =>
                    have hbit := or_bit moved k k HRND.out.mvd
                    rw [hmk] at hbit
                    have hbit2 : (moved ||| 2 ^ k).testBit k = true := by rw [hbit]; simp
                    exact ⟨{ th0 with e := xe, f := xf, g := xg, h := xh }, moved ||| 2 ^ k, rfl, (((HT5.out.put 4 _).put 5 _).put 6 _).put 7 _, ((((HG5.out.other htpn htpA 4 _).other htpn htpA 5 _).other htpn htpA 6 _).other htpn htpA 7 _).le (by omega), or_lt _ _ HRND.out.mvd, fun j hj => by rw [or_bit moved k j HRND.out.mvd]; simp; omega, T21.valid (t := { th0 with e := xe, f := xf, g := xg, h := xh }) htn HTP.out ⟨rfl, rfl, rfl, rfl, HTH.out⟩ hpx hpy, fun c => (by rw [hbit2] at c; cases c), fun _ => HTH.out⟩
                · have r0 : (r == 0) = false := by simp; omega
                  have r1 : (r == 1) = false := by simp; omega
                  have hmk : moved.testBit k = false := Nat.testBit_lt_two_pow HRND.out.mvd
                  go_wp2_with fail
                  go_meet
                  case rel =>
                    exact ⟨th0, moved, rfl, HT4.out, HGB.out.le (by omega), hmd2, fun _ _ => rfl, HTP.out.valid hpx hpy ⟨hq0, hq1⟩ ⟨nt1, nt2⟩ (.inl HTH.out) hpz, fun _ => HTP.out.tr HSQ.out (.inl HTH.out) hpz, fun _ => HTH.out⟩
              case rest =>
                obtain ⟨th, md, rfl, htx, hG, hm1, hm2, hval, hst, hgn⟩ := hcut
                have HGC := Lib.hid (HDR2.out.tr hG)
                have HTX := Lib.hid htx
                have hN1A : A < w4.heap.size := by omega
                have hbw' : b < w.heap.size := HR.out.2.2.1
                have hBN : w.heap.size < w4.heap.size := by omega
                have hDN : D < w4.heap.size := by omega
                have HOY := Lib.hid (own_gr (own_dr HRND.out.oy HGC.out hN1A) (Gr.alloc wc (.cells #[.int .i64 z] 3)))
                have HOX := Lib.hid (own_gr (own_dr HRND.out.ox HGC.out hN1A) (Gr.alloc wc (.cells #[.int .i64 z] 3)))
                obtain ⟨sp, cp, rfl⟩ := own_len HRND.out.ox
                obtain ⟨tsp, tcp, rfl⟩ := own_len HRND.out.oy
                have HBX := Lib.hid ((HGC.out.box HB.out hbpA).grow (Gr.alloc wc (.cells #[.int .i64 z] 3)))
                have HTX1 := Lib.hid (htx.grow (Gr.alloc wc (.cells #[.int .i64 z] 3)))
                have HNEW := Lib.hid (heap_new wc (.cells #[.int .i64 z] 3))
                obtain ⟨i0, ii0, iz0, iz1, iz2⟩ := info_parts Try.info47
                have II0 := Lib.hid ii0
                have IZ0 := Lib.hid iz0
                have IZ1 := Lib.hid iz1
                have IZ2 := Lib.hid iz2
                obtain ⟨j0, jj0, jz0, jz1, jz2⟩ := info_parts Try.info3x
                have JJ0 := Lib.hid jj0
                have JZ0 := Lib.hid jz0
                have JZ1 := Lib.hid jz1
                have JZ2 := Lib.hid jz2
                have hszA : w4.heap.size ≤ wc.heap.size := by have h1 := HRND.out.size; have h2 := HGC.out.size; omega
                have hwrb : wr.heap.size ≤ tp := by have h2 := HDR2.out.size; omega
                have HM1 := Lib.hid hm1
                have HM2 := Lib.hid hm2
                have HVAL := Lib.hid hval
                have HST := Lib.hid hst
                have HGN := Lib.hid hgn
                clear hG htx ii0 iz0 iz1 iz2 jj0 jz0 jz1 jz2 hm1 hm2 hval hst hgn
                go_wp2_with (at_builtin; refine wpList_append_lies _ rfl _ _ 43 rfl w4.heap.size 3 j0 _ 1 8 Try.underlying43 JJ0.out JZ0.out JZ1.out JZ2.out rfl (by decide) _ _ _ rfl HOY.out ⟨wc.heap.size, 0, none⟩ 1 1 [.int .i64 z] rfl rfl ?c1 ?c2 ?c3 ?c4 ?c5 ?c6 _ rfl ?_)
                case c2 => simp [Value.oneCell']
                case c4 => unfold maxLen; omega
                case c5 => omega
                case c6 => omega
                intro g1 c1 w5 hown1 hgrow1 hat1 hlt1
                have n5b : some bp ≠ (Value.slice tsp k tcp).ownBlock := fun h => by have := (HOY.out.lt _ h.symm).1; omega
                have n5t : some tp ≠ (Value.slice tsp k tcp).ownBlock := fun h => by have := (HRND.out.oy.lt _ h.symm).2; omega
                have hbx5 := HBX.out.grown hgrow1 n5b
                have htx5 := HTX1.out.grown hgrow1 n5t
                have hox5 := HOX.out.kept hgrow1 (by
                  cases hx : (Value.slice sp k cp).ownBlock with
                  | none => exact .inl rfl
                  | some q => exact .inr fun e => HRND.out.dj q hx e.symm)
                have HOWN1 := Lib.hid hown1
                have HGROW1 := Lib.hid hgrow1
                have HAT1 := Lib.hid hat1
                have B5 := hbx5.facts
                have T5 := htx5.facts
                simp only [Th.vals, CellsFrom, Nat.zero_add, Nat.reduceAdd, and_true] at B5 T5
                have HBX5 := Lib.hid hbx5
                have hs5 : w4.heap.size ≤ w5.heap.size := by have h1 := hgrow1.size; have h2 : (wc.alloc (.cells #[.int .i64 z] 3)).heap.size = wc.heap.size + 1 := by simp
                                                             omega
                have HOX6 := Lib.hid (own_gr hox5 (Gr.alloc w5 (.cells #[.int .i64 th.a, .int .i64 th.b, .int .i64 th.c, .int .i64 th.d, .int .i64 th.e, .int .i64 th.f, .int .i64 th.g, .int .i64 th.h, .int .i64 th.z] 47)))
                have HNEW6 := Lib.hid (heap_new w5 (.cells #[.int .i64 th.a, .int .i64 th.b, .int .i64 th.c, .int .i64 th.d, .int .i64 th.e, .int .i64 th.f, .int .i64 th.g, .int .i64 th.h, .int .i64 th.z] 47))
                clear hown1 hgrow1 hat1 hlt1 hbx5 htx5 hox5 n5b n5t HOY HNEW HBX HTX1
                go_wp2_with (at_builtin; refine wpList_append_lies _ rfl _ _ 24 rfl w4.heap.size 47 i0 _ 9 72 Try.underlying24 II0.out IZ0.out IZ1.out IZ2.out rfl (by decide) _ _ _ rfl HOX6.out ⟨w5.heap.size, 0, none⟩ 1 1 [.int .i64 th.a, .int .i64 th.b, .int .i64 th.c, .int .i64 th.d, .int .i64 th.e, .int .i64 th.f, .int .i64 th.g, .int .i64 th.h, .int .i64 th.z] rfl rfl ?d1 ?d2 ?d3 ?d4 ?d5 ?d6 _ rfl ?_)
                case d1 => exact World.news_of_block (cs := #[.int .i64 th.a, .int .i64 th.b, .int .i64 th.c, .int .i64 th.d, .int .i64 th.e, .int .i64 th.f, .int .i64 th.g, .int .i64 th.h, .int .i64 th.z]) (t := 47) (fr := (0, 0)) HNEW6.out
                case d2 => simp [Value.oneCell']
                case d3 => omega
                case d4 => unfold maxLen; omega
                case d5 => omega
                case d6 => simp; omega
                intro g2 c2 w7 hown2 hgrow2 hat2 hlt2
                have n7b : some bp ≠ (Value.slice sp k cp).ownBlock := fun h => by have := (HOX6.out.lt _ h.symm).1; omega
                have hbx7 := (HBX5.out.grow (Gr.alloc w5 (.cells #[.int .i64 th.a, .int .i64 th.b, .int .i64 th.c, .int .i64 th.d, .int .i64 th.e, .int .i64 th.f, .int .i64 th.g, .int .i64 th.h, .int .i64 th.z] 47))).grown hgrow2 n7b
                have x7 := hbx7.cell (i := 7) rfl
                have f7 := hbx7.free 7
                have HNX := Lib.hid (Rnd.next (th := th) (z := z) (md := md) (w0 := w) HRND.out HGC.out (by omega) hN1A hBN (by omega) hDN hbl4 hDA hbpA hbD (by omega) (by omega) HGROW1.out HOWN1.out (by have := HAT1.out; simpa using this) hgrow2 hown2 (by simpa using hat2) HM1.out HM2.out HVAL.out HST.out HGN.out HBW.out (by omega) (by omega) (by omega))
                clear hown2 hgrow2 hat2 hlt2 hbx7 n7b B5 T5 HOX HOX6 HNEW6 HBX5
                go_wp2_with fail
                exact ⟨⟨k + 1, l ++ [th], zs ++ [z], md, _, by omega, by go_num, rfl, HNX.out.2, HNX.out.1⟩, by simp [intOf]; omega⟩
      · have hkl : k = cn := by omega
        subst hkl
        go_wp2_with fail
        go_meet
        case rel =>
          exact ⟨k, l, zs, moved, pv, hcn12, rfl, HBW.out, HRND.out⟩
  case rest =>
    obtain ⟨k, l, zs, moved, pv, hk, rfl, hbw, hrnd⟩ := hcut
    obtain ⟨sp, cp, rfl⟩ := own_len hrnd.ox
    obtain ⟨tsp, tcp, rfl⟩ := own_len hrnd.oy
    have hkk : moved < 4096 := by
      have h1 := hrnd.mvd
      have h2 := Nat.pow_le_pow_right (n := 2) (by omega) hk
      have h3 : (2 : Nat) ^ 12 = 4096 := rfl
      omega
    rename_i KK hKK
    exact hKK _ _ (ltrue_rest ⟨fl, fh, bl, bh, ti, ne, fa, l⟩ sp tsp k cp tcp bp moved (f * ba) zs w wc (ThingsAt.own2 hrnd.ox hrnd.len.1.symm (by rw [hrnd.len.1]; omega)) hrnd.box (IntsAt.own hrnd.oy hrnd.len.2.symm) hrnd.len.2 (hrnd.truth HNUM.out hpf hpb hk) hkk hk ⟨by omega, by omega⟩ (Lib.hid hbw) _ _ _ _ _ _ _ _ _ _ _ _ _ _ _ _ _ _ _ _ _ _ _ _ _ _ _ _ _ _ _ _ _ _ _ _ _ _ _ _ _ _ _ _ _ _ _ _ _ _ _ _ _ _ _ _ _ _ _ _ _ _ _ _ _ _ _ _ _ _ _ _ _ _ _ _ _ _ _ _ _ _ _ _ _ _ _ _ _ _ _ _ _ _ _ _ _ _ _ _ _ _ _ _ _ _ _ _ _ _ _ _ _ _ _ _ _ _ _ _ _ _ _ _ _ _ _ _ _ _ _ _ _ _ _ _ _ _ _ _ _ _ _ _ _ _ _ _ _ _ _ _ _ _ _ _ _ _ _ _ _ _ _ _ _ _ _ _ _ _ _ _ _ _ _ _ _ _ _ _ _ _ _ _ _ _ _ _ _ _ _ _ _ _ _ _ _ _ _ _ _ _ _ _ _ _ _ _ _ _ _ _ _ _ _ _ _ _ _ _ _ _ _ _ _ _ _ _ _ _ _ _ _ _ _ _ _ _ _ _ _ _ _ _ _ _ _ _ _ _ _ _ _ _ _ _ _ _ _ _ _ _ _ _ _ _ _ _ _ _ _ _ _ _ _ _ _ _ _ _ _ _ _ _ _ _ _ _ _ _ _ _ _ _ _ _ _ _ _)
end Go.Proofs.Ytofdoadpaedogaa
