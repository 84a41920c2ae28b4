import Derived.Test.YtcngaohfemdfjaaGreatY34
import Derived.Test.YtcngaohfemdfjaaGreatY33
import Derived.Test.YtcngaohfemdfjaaGreatX41
import Derived.RegionTactic
set_option linter.unusedVariables false
set_option linter.unusedSimpArgs false
namespace Go.Proofs.YtcngaohfemdfjaaGreat
open Go.RowKit
set_option maxHeartbeats 2000000 in
/-- The function that draws, made. -/
theorem draws_any (b o len cap : Nat) (w : World) (h : ByIn b o len w) :
    Calls Tryz.prog 30 #[.slice (some ⟨b, o, none⟩) len cap] w fun e w' => e = .returned (drawV (w.heap.size + 1) w.heap.size) ∧ Below w.heap.size w w' ∧ DrawOk (w.heap.size + 1) w.heap.size b o len cap 0 w' := by
  have HH := Lib.hid h
  clear h
  go_enter Tryz.func30, Tryz.ntmps30
  go_wp2
  have hg : Gr w ((w.alloc (Obj.cells #[.slice (some ⟨b, o, none⟩) len cap] 45)).alloc (Obj.cells #[.int .i64 0] 3)) := (Gr.alloc _ _).tr (Gr.alloc _ _)
  have hA := Box.fresh (w.alloc (Obj.cells #[.slice (some ⟨b, o, none⟩) len cap] 45)) [.int .i64 0] 3
  have hB := (Box.fresh w [.slice (some ⟨b, o, none⟩) len cap] 45).grow (Gr.alloc _ (Obj.cells #[.int .i64 0] 3))
  simp only [World.size_alloc] at hA
  obtain ⟨r1, r2, r3, r4⟩ := HH.out
  have hrow : ByIn b o len ((w.alloc (Obj.cells #[.slice (some ⟨b, o, none⟩) len cap] 45)).alloc (Obj.cells #[.int .i64 0] 3)) := ⟨r1, r2, Nat.lt_of_lt_of_le r3 hg.size, fun i hi => by
    obtain ⟨x, hx, hx'⟩ := r4 i hi
    exact ⟨x, (hg.cell (p := ⟨b, o + i, none⟩) r3).trans hx, hx'⟩⟩
  exact bodyPost_ret (v := drawV (w.heap.size + 1) w.heap.size) (by simp [results, Tryz.results30, go_sem, drawV]) rfl ⟨rfl, hg, ⟨0, hA, by omega, by omega⟩, hB, hrow, by omega, by omega⟩
theorem Dr.bel {A i B : Nat} {w W : World} (h : Dr A i w W) (hB : B ≤ w.heap.size) (hA : B ≤ A) : Below B w W :=
  ⟨h.os, h.tape, h.output, h.size, fun k hk => h.block k (by omega) (by omega)⟩

set_option maxRecDepth 100000 in
set_option maxHeartbeats 8000000 in
theorem other_any (k : Cd) {A B b o len cap N : Nat} {w : World} (h : DrawOk A B b o len cap N w) (hN : N ≤ 90000) (hk : 0 ≤ k.cuts ∧ k.cuts ≤ 40) :
    Calls Tryz.prog 33 #[.agg k.cs.toArray, drawV A B] w fun e w' => (∃ u : Cu, e = .returned u.val ∧ u.isT k.cuts = true) ∧ Dr A 3 w w' := by
  have HA : A < w.heap.size := by obtain ⟨m, hm, -⟩ := h.at_; exact hm.lt
  have HH := Lib.hid h
  clear h
  have p10 : ∀ h : 10 < k.cs.length, k.cs[10] = .int .i64 k.cuts := fun _ => rfl
  have hl : k.cs.length = 17 := rfl
  obtain ⟨k0, k1⟩ := hk
  unfold drawV
  have hga : Gr w ((w.alloc (Obj.cells k.cs.toArray 28)).alloc (Obj.cells #[.int .i64 0, .int .i64 0, .int .i64 0, .int .i64 0] 30)) := (Gr.alloc _ _).tr (Gr.alloc _ _)
  have HC := Lib.hid ((Box.fresh w k.cs 28).grow (Gr.alloc _ (Obj.cells #[.int .i64 0, .int .i64 0, .int .i64 0, .int .i64 0] 30)))
  have HU := Lib.hid (show Box ((w.alloc (Obj.cells k.cs.toArray 28)).alloc (Obj.cells #[.int .i64 0, .int .i64 0, .int .i64 0, .int .i64 0] 30)) (w.heap.size + 1) [.int .i64 0, .int .i64 0, .int .i64 0, .int .i64 0] 30 by simpa using Box.fresh (w.alloc (Obj.cells k.cs.toArray 28)) [.int .i64 0, .int .i64 0, .int .i64 0, .int .i64 0] 30)
  have HD := Lib.hid (HH.out.grow (Dr.of hga))
  have HG := Lib.hid hga
  clear hga
  go_enter Tryz.func33, Tryz.ntmps33
  go_wp2_with fail
  refine (draw_any HD.out (by omega) (2 * k.cuts + 1) (by omega) (by omega)).mono ?_
  rintro e w1 ⟨⟨r, rfl, r0, r1⟩, hd1⟩
  have HC1 := Lib.hid (hd1.box HC.out (by omega))
  have HU1 := Lib.hid (hd1.box HU.out (by omega))
  have HD1 := Lib.hid (HD.out.grow hd1)
  have HG1 := Lib.hid ((Dr.of (A := A) HG.out).tr hd1)
  have c3 := HC1.out.cell (i := 10) rfl
  have cl := HC1.out.lt
  clear hd1
  go_wp2_with fail
  go_region
  obtain ⟨lo, hlo⟩ : ∃ lo : Int, lo = (if k.cuts < r then r - k.cuts else 0) := ⟨_, rfl⟩
  obtain ⟨hi, hhi⟩ : ∃ hi : Int, hi = (if k.cuts < r then k.cuts else r) := ⟨_, rfl⟩
  rw [← hlo, ← hhi]
  have hlb : 0 ≤ lo ∧ lo ≤ hi ∧ hi ≤ k.cuts ∧ hi ≤ r ∧ r - k.cuts ≤ lo := by
    rw [hlo, hhi]
    split <;> omega
  clear hlo hhi c3
  have HD2 := Lib.hid (HD1.out.grow (Dr.drew A w1))
  go_wp2_with fail
  refine (draw_any HD2.out (by omega) (hi - lo + 1) (by omega) (by omega)).mono ?_
  rintro e w2 ⟨⟨s, rfl, s0, s1⟩, hd2⟩
  have HU2 := Lib.hid (hd2.box (HU1.out.grow (Gr.drew _)) (by omega))
  have HD3 := Lib.hid (HD2.out.grow hd2)
  have HG2 := Lib.hid ((HG1.out.tr (Dr.drew A w1)).tr hd2)
  clear hd2
  go_wp2_with fail
  refine (draw_any HD3.out (by omega) (hi - lo + 1) (by omega) (by omega)).mono ?_
  rintro e w3 ⟨⟨q, rfl, q0, q1⟩, hd3⟩
  have HU3 := Lib.hid (hd3.box HU2.out (by omega))
  have HG3 := Lib.hid (HG2.out.tr hd3)
  clear hd3
  go_wp2_with fail
  refine (lcuts_any _ _ _ _ _).mono ?_
  rintro e w4 ⟨rfl, hb4⟩
  have hu4 := HU3.out.grow hb4
  have u0 := hu4.cell (i := 0) rfl
  have u1 := hu4.cell (i := 1) rfl
  have u2 := hu4.cell (i := 2) rfl
  have u3 := hu4.cell (i := 3) rfl
  have uf := hu4.free
  have ul := hu4.lt
  have HU4 := Lib.hid hu4
  have HG4 := Lib.hid (HG3.out.tr (Dr.of (A := A) hb4))
  clear hb4 hu4
  go_wp2_with fail
  have hR := (((HU4.out.put 0 (.int .i64 (lo + s))).put 1 (.int .i64 (r - (lo + s)))).put 2 (.int .i64 (lo + q))).put 3 (.int .i64 (r - (lo + q)))
  simp only [List.set_cons_zero, List.set_cons_succ] at hR
  have v0 := hR.cell (i := 0) rfl
  have v1 := hR.cell (i := 1) rfl
  have v2 := hR.cell (i := 2) rfl
  have v3 := hR.cell (i := 3) rfl
  clear u0 u1 u2 u3
  refine bodyPost_ret (v := .agg #[.int .i64 (lo + s), .int .i64 (r - (lo + s)), .int .i64 (lo + q), .int .i64 (r - (lo + q))]) (by simp [results, Tryz.results33, go_sem, v0, v1, v2, v3]) rfl ⟨⟨⟨lo + s, r - (lo + s), lo + q, r - (lo + q)⟩, rfl, ?_⟩, ?_⟩
  · unfold Cu.isT
    simp only [Bool.and_eq_true, decide_eq_true_eq]
    omega
  · have h1 := HG4.out
    exact ((((h1.other (by omega) (by omega) 0 _).other (by omega) (by omega) 1 _).other (by omega) (by omega) 2 _).other (by omega) (by omega) 3 _).le (by omega)
set_option maxRecDepth 100000 in
set_option maxHeartbeats 4000000 in
theorem lpick_any {A B b o len cap N : Nat} {w : World} (h : DrawOk A B b o len cap N w) (hN : N ≤ 90000) (x y : Int) (hx : -1000000 ≤ x) (hxy : x ≤ y) (hy : y ≤ 1000000) :
    Calls Tryz.prog 31 #[.agg #[.int .i64 x, .int .i64 y], drawV A B] w fun e w' => (∃ v, e = .returned v ∧ DI (fun r => x ≤ r ∧ r ≤ y) v w') ∧ Dr A 100 w w' := by
  have HA : A < w.heap.size := by obtain ⟨m, hm, -⟩ := h.at_; exact hm.lt
  have hga : Gr w (w.alloc (.cells #[.int .i64 x, .int .i64 y] 23)) := Gr.alloc _ _
  have HR := Lib.hid (show Box (w.alloc (.cells #[.int .i64 x, .int .i64 y] 23)) w.heap.size [.int .i64 x, .int .i64 y] 23 from Box.fresh w [.int .i64 x, .int .i64 y] 23)
  have H1 := Lib.hid (show DrawOk A B b o len cap N (w.alloc (.cells #[.int .i64 x, .int .i64 y] 23)) from h.grow (Dr.of hga))
  have HG1 := Lib.hid hga
  clear hga h
  unfold drawV
  go_enter Tryz.func31, Tryz.ntmps31
  go_wp2_with fail
  have hrA : w.heap.size ≠ A := by omega
  obtain ⟨c0, c1, cf0, cf1, cl⟩ := HR.out.two
  generalize w.alloc (.cells #[.int .i64 x, .int .i64 y] 23) = w1 at *
  refine Dw.region2 (A := A) (κ := 1) 11 ?_ ?_ ?_
  · kernel_rfl
  · kernel_rfl
  simp only [List.take_succ_cons, List.take_zero, List.drop_succ_cons, List.drop_zero]
  apply Dw.chain_eq (D := [(2, none)]) rfl (by kernel_rfl)
  · intro ρ W ⟨p1, p2, p3⟩ hG hF K hK; (try simp only [FactsD, DI, DS, List.getD_cons_zero, List.getD_cons_succ, List.getD_nil, and_true, true_and] at hF); obtain he2_0 := hF; have hG2 := (Dr.drew A _).tr hG; have ⟨hc, hf, hz⟩ := hG2.cells; go_simp; exact hK _ Dw.gives_val
  apply Dw.chain_eq (D := [(5, some 0)]) rfl (by kernel_rfl)
  · intro ρ W ⟨p1, p2, p3⟩ hG hF K hK; (try simp only [FactsD, DI, DS, List.getD_cons_zero, List.getD_cons_succ, List.getD_nil, and_true, true_and] at hF); obtain he5_1 := hF; have hG2 := (Dr.drew A _).tr hG; have ⟨hc, hf, hz⟩ := hG2.cells; go_simp; exact hK _ Dw.gives_val
  apply Dw.chain_eq (D := [(1, none)]) rfl (by kernel_rfl)
  · intro ρ W ⟨p1, p2, p3⟩ hG hF K hK; (try simp only [FactsD, DI, DS, List.getD_cons_zero, List.getD_cons_succ, List.getD_nil, and_true, true_and] at hF); obtain he1_2 := hF; have hG2 := (Dr.drew A _).tr hG; have ⟨hc, hf, hz⟩ := hG2.cells; go_simp; exact hK _ Dw.gives_val
  apply Dw.chain_eq (D := [(2, none)]) rfl (by kernel_rfl)
  · intro ρ W ⟨p1, p2, p3⟩ hG hF K hK; (try simp only [FactsD, DI, DS, List.getD_cons_zero, List.getD_cons_succ, List.getD_nil, and_true, true_and] at hF); obtain he2_3 := hF; have hG2 := (Dr.drew A _).tr hG; have ⟨hc, hf, hz⟩ := hG2.cells; go_simp; exact hK _ Dw.gives_val
  apply Dw.chain_eq (D := [(8, some 0)]) rfl (by kernel_rfl)
  · intro ρ W ⟨p1, p2, p3⟩ hG hF K hK; (try simp only [FactsD, DI, DS, List.getD_cons_zero, List.getD_cons_succ, List.getD_nil, and_true, true_and] at hF); obtain he8_4 := hF; have hG2 := (Dr.drew A _).tr hG; have ⟨hc, hf, hz⟩ := hG2.cells; go_simp; exact hK _ Dw.gives_val
  apply Dw.chain_eq (D := [(2, none)]) rfl (by kernel_rfl)
  · intro ρ W ⟨p1, p2, p3⟩ hG hF K hK; (try simp only [FactsD, DI, DS, List.getD_cons_zero, List.getD_cons_succ, List.getD_nil, and_true, true_and] at hF); obtain he2_5 := hF; have hG2 := (Dr.drew A _).tr hG; have ⟨hc, hf, hz⟩ := hG2.cells; go_simp; exact hK _ Dw.gives_val
  apply Dw.chain_eq (D := [(10, some 0)]) rfl (by kernel_rfl)
  · intro ρ W ⟨p1, p2, p3⟩ hG hF K hK; (try simp only [FactsD, DI, DS, List.getD_cons_zero, List.getD_cons_succ, List.getD_nil, and_true, true_and] at hF); obtain he10_6 := hF; have hG2 := (Dr.drew A _).tr hG; have ⟨hc, hf, hz⟩ := hG2.cells; go_simp; exact hK _ Dw.gives_val
  refine Dw.chain_any (V := DI (fun r => r = y - x)) (D := [(9, some 2), (11, some 0)]) rfl (by kernel_rfl) (DI.lasts _) ?_ ?_
  · intro ρ W ⟨p1, p2, p3⟩ hG hF K hK; (try simp only [FactsD, DI, DS, List.getD_cons_zero, List.getD_cons_succ, List.getD_nil, and_true, true_and] at hF); obtain ⟨he9_7, he11_7⟩ := hF; have hG2 := (Dr.drew A _).tr hG; have ⟨hc, hf, hz⟩ := hG2.cells; go_simp; exact hK _ (DI.valw (by omega) (by omega) (by omega))
  refine Dw.chain_any (V := DI (fun r => r = y - x + 1)) (D := [(12, some 0)]) rfl (by kernel_rfl) (DI.lasts _) ?_ ?_
  · intro ρ W ⟨p1, p2, p3⟩ hG hF K hK; (try simp only [FactsD, DI, DS, List.getD_cons_zero, List.getD_cons_succ, List.getD_nil, and_true, true_and] at hF); obtain ⟨r12, hr12, hp12⟩ := hF; have hG2 := (Dr.drew A _).tr hG; have ⟨hc, hf, hz⟩ := hG2.cells; go_simp; exact hK _ (DI.valw (by omega) (by omega) (by omega))
  refine Dw.chain_any (V := DI (fun r => 0 ≤ r ∧ r < y - x + 1)) (D := [(7, some 6), (13, some 0)]) rfl (by kernel_rfl) (DI.lasts _) ?_ ?_
  · intro ρ W ⟨p1, p2, p3⟩ hG hF K hK; (try simp only [FactsD, DI, DS, List.getD_cons_zero, List.getD_cons_succ, List.getD_nil, and_true, true_and] at hF); obtain ⟨he7_9, ⟨r13, hr13, hp13⟩⟩ := hF; have hG2 := (Dr.drew A _).tr hG; have ⟨hc, hf, hz⟩ := hG2.cells; subst hp13; go_simp; exact hK _ (Dw.gives_rel (draw_rel (H1.out.grow hG2) (by omega) _ (by omega) (by omega)))
  refine Dw.chain_any (V := DI (fun r => x ≤ r ∧ r ≤ y)) (D := [(6, some 8), (14, some 0)]) rfl (by kernel_rfl) (DI.lasts _) ?_ ?_
  · intro ρ W ⟨p1, p2, p3⟩ hG hF K hK; (try simp only [FactsD, DI, DS, List.getD_cons_zero, List.getD_cons_succ, List.getD_nil, and_true, true_and] at hF); obtain ⟨he6_10, ⟨r14, hr14, hp14⟩⟩ := hF; have hG2 := (Dr.drew A _).tr hG; have ⟨hc, hf, hz⟩ := hG2.cells; go_simp; exact hK _ (DI.valw (by omega) (by omega) (by omega))
  refine Dw.chain_done ?_
  intro vs W hG hV
  obtain ⟨⟨r, e10, hp⟩, -⟩ := hV
  set_option maxRecDepth 100000 in
  simp only [lay, Act.put, List.getElem?_toArray, List.getElem?_cons_succ, List.getElem?_cons_zero, Option.bind_some, List.setIfInBounds_toArray, List.set_cons_succ, List.set_cons_zero]
  simp only [Nat.reduceSub] at e10
  generalize vs 0 = v0
  generalize vs 1 = v1
  generalize vs 2 = v2
  generalize vs 3 = v3
  generalize vs 4 = v4
  generalize vs 5 = v5
  generalize vs 6 = v6
  generalize vs 7 = v7
  generalize vs 8 = v8
  generalize vs 9 = v9
  generalize vs 10 = v10 at *
  subst e10
  go_wp2
  exact bodyPost_ret (v := .int .i64 r) (by simp [results, Tryz.results31, go_sem]) rfl ⟨⟨_, rfl, r, rfl, hp⟩, ((Dr.of HG1.out).tr hG).le (by omega)⟩
end Go.Proofs.YtcngaohfemdfjaaGreat
