import Derived.Test.YtjlaoiimbhlafaaA1
import Derived.Deep.CutBlock
import Derived.Deep.DeepCutAuto
import Derived.RegionTactic
set_option linter.unusedVariables false
set_option linter.unusedSimpArgs false
namespace Go.Proofs.Ytjlaoiimbhlafaa
open Go.RowKit Go.Shelf

attribute [local go_sem] Oper.semAt_some
theorem aspan35_any (a b : Int) (w : World) :
    Calls Try.prog 35 #[.int .i64 a, .int .i64 b] w fun e w' => e = .returned (.agg #[.int .i64 a, .int .i64 b]) ∧ Below w.heap.size w w' := by
  go_enter Try.func35, Try.ntmps35
  go_wp2
  have HB := Box.fresh w [.int .i64 a, .int .i64 b] 24
  have y0 := HB.cell (i := 0) rfl
  have y1 := HB.cell (i := 1) rfl
  exact bodyPost_ret (v := .agg #[.int .i64 a, .int .i64 b]) (by simp [results, Try.f35, go_sem, y0, y1]) rfl ⟨rfl, (Below.refl _ _).alloc (Nat.le_refl _) _⟩
theorem aspan_rel {A : Nat} {P : Int → Int → Prop} {a b : Int} (h : P a b) (w : World) :
    Calls Try.prog 35 #[.int .i64 a, .int .i64 b] w fun e w' => (∃ v, e = .returned v ∧ DS P v w') ∧ Dn A 1 w w' :=
  (aspan35_any a b w).mono fun e w' ⟨h1, h2⟩ => ⟨⟨_, h1, a, b, rfl, h⟩, (Dn.of (A := A) h2).le (by omega)⟩
set_option maxHeartbeats 2000000 in
/-- The function that draws, made. -/
theorem draws_any (b o len cap : Nat) (w : World) (h : ByIn b o len w) :
    Calls Try.prog 37 #[.slice (some ⟨b, o, none⟩) len cap] w fun e w' => e = .returned (drawV (w.heap.size + 1) w.heap.size) ∧ Below w.heap.size w w' ∧ DrawOk (w.heap.size + 1) w.heap.size b o len cap 0 w' := by
  have HH := Lib.hid h
  clear h
  go_enter Try.func37, Try.ntmps37
  go_wp2
  have hg : Gr w ((w.alloc (Obj.cells #[.slice (some ⟨b, o, none⟩) len cap] 50)).alloc (Obj.cells #[.int .i64 0] 3)) := (Gr.alloc _ _).tr (Gr.alloc _ _)
  have hA := Box.fresh (w.alloc (Obj.cells #[.slice (some ⟨b, o, none⟩) len cap] 50)) [.int .i64 0] 3
  have hB := (Box.fresh w [.slice (some ⟨b, o, none⟩) len cap] 50).grow (Gr.alloc _ (Obj.cells #[.int .i64 0] 3))
  simp only [World.size_alloc] at hA
  obtain ⟨r1, r2, r3, r4⟩ := HH.out
  have hrow : ByIn b o len ((w.alloc (Obj.cells #[.slice (some ⟨b, o, none⟩) len cap] 50)).alloc (Obj.cells #[.int .i64 0] 3)) := ⟨r1, r2, Nat.lt_of_lt_of_le r3 hg.size, fun i hi => by
    obtain ⟨x, hx, hx'⟩ := r4 i hi
    exact ⟨x, (hg.cell (p := ⟨b, o + i, none⟩) r3).trans hx, hx'⟩⟩
  exact bodyPost_ret (v := drawV (w.heap.size + 1) w.heap.size) (by simp [results, Try.results37, go_sem, drawV]) rfl ⟨rfl, hg, ⟨0, hA, by omega, by omega⟩, hB, hrow, by omega, by omega⟩
set_option maxRecDepth 100000 in
set_option maxHeartbeats 8000000 in
/-- A span around a number. -/
theorem around_any {A B b o len cap N D : Nat} {w : World} (h : DrawOk A B b o len cap N w) (hN : N ≤ 90000) (hD : Box w D [drawV A B] 53) (hDA : D ≠ A) (n wide most : Int) (hn0 : 0 ≤ n) (hnm : n ≤ most) (hm : most ≤ 1000000) (hw0 : 0 < wide) (hw1 : wide ≤ 1000) :
    Calls Try.prog 76 #[.int .i64 n, .int .i64 wide, .int .i64 most, .pointer (some ⟨D, 0, none⟩)] w fun e w' => (∃ v, e = .returned v ∧ DS (fun x y => 0 ≤ x ∧ x ≤ n ∧ n ≤ y ∧ y ≤ most) v w') ∧ Dn A 100 w w' := by
  have HA : A < w.heap.size := by obtain ⟨m, hm, -⟩ := h.at_; exact hm.lt
  have hga : Gr w (w.alloc (.cells #[.int .i64 0, .int .i64 0] 24)) := Gr.alloc _ _
  have HR := Lib.hid (show Box (w.alloc (.cells #[.int .i64 0, .int .i64 0] 24)) w.heap.size [.int .i64 0, .int .i64 0] 24 from Box.fresh w [.int .i64 0, .int .i64 0] 24)
  have H1 := Lib.hid (show DrawOk A B b o len cap N (w.alloc (.cells #[.int .i64 0, .int .i64 0] 24)) from h.grow (Dn.of hga))
  have HDD := Lib.hid (hD.grow hga)
  have HG1 := Lib.hid hga
  clear hga h hD
  unfold drawV at HDD
  go_enter Try.func76, Try.ntmps76
  go_upto_region 1 with fail
  have hrA : w.heap.size ≠ A := by omega
  have hrn := HR.out
  generalize w.alloc (.cells #[.int .i64 0, .int .i64 0] 24) = w1 at *
  refine Dv.region2 (A := A) (κ := 1) 14 ?_ ?_ ?_
  · kernel_rfl
  · kernel_rfl
  simp only [List.take_succ_cons, List.take_zero, List.drop_succ_cons, List.drop_zero]
  apply Dv.chain_eq (D := [(0, none)]) rfl (by kernel_rfl)
  · intro ρ W ⟨p1, p2, p3⟩ hG hF K hK; (try simp only [FactsD, DI, DS, List.getD_cons_zero, List.getD_cons_succ, List.getD_nil, and_true, true_and] at hF); obtain he0_0 := hF; have hG2 := (Dn.drew A _).tr hG; have ⟨hc, hf, hz⟩ := hG2.cells; go_simp; exact hK _ Dv.gives_val
  apply Dv.chain_eq (D := [(3, none)]) rfl (by kernel_rfl)
  · intro ρ W ⟨p1, p2, p3⟩ hG hF K hK; (try simp only [FactsD, DI, DS, List.getD_cons_zero, List.getD_cons_succ, List.getD_nil, and_true, true_and] at hF); obtain he3_1 := hF; have hG2 := (Dn.drew A _).tr hG; have ⟨hc, hf, hz⟩ := hG2.cells; have hD2 := (hG2.box HDD.out hDA).cell (i := 0) rfl; have hDl := (hG2.box HDD.out hDA).lt; go_simp; exact hK _ Dv.gives_val
  apply Dv.chain_eq (D := [(1, none)]) rfl (by kernel_rfl)
  · intro ρ W ⟨p1, p2, p3⟩ hG hF K hK; (try simp only [FactsD, DI, DS, List.getD_cons_zero, List.getD_cons_succ, List.getD_nil, and_true, true_and] at hF); obtain he1_2 := hF; have hG2 := (Dn.drew A _).tr hG; have ⟨hc, hf, hz⟩ := hG2.cells; go_simp; exact hK _ Dv.gives_val
  refine Dv.chain_any (V := DI (fun r => 0 ≤ r ∧ r < wide)) (D := [(9, some 1), (10, some 0)]) rfl (by kernel_rfl) (DI.lasts _) ?_ ?_
  · intro ρ W ⟨p1, p2, p3⟩ hG hF K hK; (try simp only [FactsD, DI, DS, List.getD_cons_zero, List.getD_cons_succ, List.getD_nil, and_true, true_and] at hF); obtain ⟨he9_3, he10_3⟩ := hF; have hG2 := (Dn.drew A _).tr hG; have ⟨hc, hf, hz⟩ := hG2.cells; go_simp; exact hK _ (Dv.gives_rel (draw_rel (H1.out.grow hG2) (by omega) _ (by omega) (by omega)))
  refine Dv.chain_any (V := DI (fun r => n - wide < r ∧ r ≤ n)) (D := [(8, some 3), (11, some 0)]) rfl (by kernel_rfl) (DI.lasts _) ?_ ?_
  · intro ρ W ⟨p1, p2, p3⟩ hG hF K hK; (try simp only [FactsD, DI, DS, List.getD_cons_zero, List.getD_cons_succ, List.getD_nil, and_true, true_and] at hF); obtain ⟨he8_4, ⟨r11, hr11, hp11⟩⟩ := hF; have hG2 := (Dn.drew A _).tr hG; have ⟨hc, hf, hz⟩ := hG2.cells; go_simp; exact hK _ (DI.valw (by omega) (by omega) (by omega))
  refine Dv.chain_any (V := DI (fun r => 0 ≤ r ∧ r ≤ n)) (D := [(12, some 0)]) rfl (by kernel_rfl) (DI.lasts _) ?_ ?_
  · intro ρ W ⟨p1, p2, p3⟩ hG hF K hK; (try simp only [FactsD, DI, DS, List.getD_cons_zero, List.getD_cons_succ, List.getD_nil, and_true, true_and] at hF); obtain ⟨r12, hr12, hp12⟩ := hF; have hG2 := (Dn.drew A _).tr hG; have ⟨hc, hf, hz⟩ := hG2.cells; go_simp; exact hK _ (DI.val (by split <;> omega))
  apply Dv.chain_eq (D := [(2, none)]) rfl (by kernel_rfl)
  · intro ρ W ⟨p1, p2, p3⟩ hG hF K hK; (try simp only [FactsD, DI, DS, List.getD_cons_zero, List.getD_cons_succ, List.getD_nil, and_true, true_and] at hF); obtain he2_6 := hF; have hG2 := (Dn.drew A _).tr hG; have ⟨hc, hf, hz⟩ := hG2.cells; go_simp; exact hK _ Dv.gives_val
  apply Dv.chain_eq (D := [(0, none)]) rfl (by kernel_rfl)
  · intro ρ W ⟨p1, p2, p3⟩ hG hF K hK; (try simp only [FactsD, DI, DS, List.getD_cons_zero, List.getD_cons_succ, List.getD_nil, and_true, true_and] at hF); obtain he0_7 := hF; have hG2 := (Dn.drew A _).tr hG; have ⟨hc, hf, hz⟩ := hG2.cells; go_simp; exact hK _ Dv.gives_val
  apply Dv.chain_eq (D := [(3, none)]) rfl (by kernel_rfl)
  · intro ρ W ⟨p1, p2, p3⟩ hG hF K hK; (try simp only [FactsD, DI, DS, List.getD_cons_zero, List.getD_cons_succ, List.getD_nil, and_true, true_and] at hF); obtain he3_8 := hF; have hG2 := (Dn.drew A _).tr hG; have ⟨hc, hf, hz⟩ := hG2.cells; have hD2 := (hG2.box HDD.out hDA).cell (i := 0) rfl; have hDl := (hG2.box HDD.out hDA).lt; go_simp; exact hK _ Dv.gives_val
  apply Dv.chain_eq (D := [(1, none)]) rfl (by kernel_rfl)
  · intro ρ W ⟨p1, p2, p3⟩ hG hF K hK; (try simp only [FactsD, DI, DS, List.getD_cons_zero, List.getD_cons_succ, List.getD_nil, and_true, true_and] at hF); obtain he1_9 := hF; have hG2 := (Dn.drew A _).tr hG; have ⟨hc, hf, hz⟩ := hG2.cells; go_simp; exact hK _ Dv.gives_val
  refine Dv.chain_any (V := DI (fun r => 0 ≤ r ∧ r < wide)) (D := [(16, some 1), (17, some 0)]) rfl (by kernel_rfl) (DI.lasts _) ?_ ?_
  · intro ρ W ⟨p1, p2, p3⟩ hG hF K hK; (try simp only [FactsD, DI, DS, List.getD_cons_zero, List.getD_cons_succ, List.getD_nil, and_true, true_and] at hF); obtain ⟨he16_10, he17_10⟩ := hF; have hG2 := (Dn.drew A _).tr hG; have ⟨hc, hf, hz⟩ := hG2.cells; go_simp; exact hK _ (Dv.gives_rel (draw_rel (H1.out.grow hG2) (by omega) _ (by omega) (by omega)))
  refine Dv.chain_any (V := DI (fun r => n ≤ r ∧ r < n + wide)) (D := [(15, some 3), (18, some 0)]) rfl (by kernel_rfl) (DI.lasts _) ?_ ?_
  · intro ρ W ⟨p1, p2, p3⟩ hG hF K hK; (try simp only [FactsD, DI, DS, List.getD_cons_zero, List.getD_cons_succ, List.getD_nil, and_true, true_and] at hF); obtain ⟨he15_11, ⟨r18, hr18, hp18⟩⟩ := hF; have hG2 := (Dn.drew A _).tr hG; have ⟨hc, hf, hz⟩ := hG2.cells; go_simp; exact hK _ (DI.valw (by omega) (by omega) (by omega))
  refine Dv.chain_any (V := DI (fun r => n ≤ r ∧ r ≤ most)) (D := [(14, some 5), (19, some 0)]) rfl (by kernel_rfl) (DI.lasts _) ?_ ?_
  · intro ρ W ⟨p1, p2, p3⟩ hG hF K hK; (try simp only [FactsD, DI, DS, List.getD_cons_zero, List.getD_cons_succ, List.getD_nil, and_true, true_and] at hF); obtain ⟨he14_12, ⟨r19, hr19, hp19⟩⟩ := hF; have hG2 := (Dn.drew A _).tr hG; have ⟨hc, hf, hz⟩ := hG2.cells; go_simp; exact hK _ (DI.val (by split <;> omega))
  refine Dv.chain_any (V := DS (fun x y => 0 ≤ x ∧ x ≤ n ∧ n ≤ y ∧ y ≤ most)) (D := [(13, some 7), (20, some 0)]) rfl (by kernel_rfl) (DS.lasts _) ?_ ?_
  · intro ρ W ⟨p1, p2, p3⟩ hG hF K hK; (try simp only [FactsD, DI, DS, List.getD_cons_zero, List.getD_cons_succ, List.getD_nil, and_true, true_and] at hF); obtain ⟨⟨r13, hr13, hp13⟩, ⟨r20, hr20, hp20⟩⟩ := hF; have hG2 := (Dn.drew A _).tr hG; have ⟨hc, hf, hz⟩ := hG2.cells; go_simp; exact hK _ (Dv.gives_rel (aspan_rel (by omega) _))
  refine Dv.chain_done ?_
  intro vs W hG hV
  obtain ⟨⟨r, q, e13, hp⟩, -⟩ := hV
  set_option maxRecDepth 100000 in
  simp only [lay, Act.put, List.getElem?_toArray, List.getElem?_cons_succ, List.getElem?_cons_zero, Option.bind_some, List.setIfInBounds_toArray, List.set_cons_succ, List.set_cons_zero]
  simp only [Nat.reduceSub] at e13
  generalize vs 0 = v0
  generalize vs 1 = v1
  generalize vs 2 = v2
  generalize vs 3 = v3
  generalize vs 4 = v4
  generalize vs 5 = v5
  generalize vs 6 = v6
  generalize vs 7 = v7
  generalize vs 8 = v8
  generalize vs 9 = v9
  generalize vs 10 = v10
  generalize vs 11 = v11
  generalize vs 12 = v12
  generalize vs 13 = v13 at *
  subst e13
  have hr2 := hG.box hrn hrA
  obtain ⟨c0, c1, cf0, cf1, cl⟩ := hr2.two
  go_wp2_with fail
  have hR := (hr2.put 0 (.int .i64 r)).put 1 (.int .i64 q)
  simp only [List.set_cons_zero, List.set_cons_succ] at hR
  have v0 := hR.cell (i := 0) rfl
  have v1 := hR.cell (i := 1) rfl
  have h1 := (Dn.of (A := A) HG1.out).tr hG
  exact bodyPost_ret (v := .agg #[.int .i64 r, .int .i64 q]) (by simp [results, Try.results76, go_sem, v0, v1]) rfl ⟨⟨_, rfl, r, q, rfl, hp⟩, ((h1.other (by omega) (by omega) 0 _).other (by omega) (by omega) 1 _).le (by omega)⟩

end Go.Proofs.Ytjlaoiimbhlafaa
