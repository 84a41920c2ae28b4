import Derived.Test.YtjlaoiimbhlafaaJ12
import Derived.Test.YtjlaoiimbhlafaaJ9
import Derived.Laws.StructEq
set_option linter.unusedVariables false
set_option linter.unusedSimpArgs false
namespace Go.Proofs.Ytjlaoiimbhlafaa
open Go.RowKit Go.Shelf

open MW
attribute [local go_sem] Oper.semAt_some run_store_func
attribute [local go_sem ↓] Go.wp_at_zero Go.wp_at_succ
set_option maxRecDepth 100000 in
set_option maxHeartbeats 8000000 in
theorem rshift_no (r : Rr) (i : Int) (w : World) (hl : MksAt r.L r.lp w) (hr : MksAt r.R r.rp w) (hok : r.ok = false) (hL : r.L.length ≤ 1000) :
    Calls Try.prog 31 #[r.val, .int .i64 i] w fun e w' => e = .returned (.tuple #[.agg #[.int .i64 0, .int .i64 0], .int .i64 1]) ∧ Below w.heap.size w w' := by
  have H57 := Lib.hid (show ∀ W, Gr w W → Calls Try.prog 57 #[r.val, .bool (decide (0 ≤ i) && decide (i ≤ (r.L.length : Int) - 1))] W fun e w' => (∃ o, e = .returned (.tuple #[o, .int .i64 1]) ∧ WsIn o ([] : List (List (Nat × Nat))) w') ∧ Below W.heap.size W w' from fun W hg => opn57_no r W (hl.grow hg) (hr.grow hg) _ hok)
  clear hl hr hok
  have HB := Lib.hid ((Box.fresh w r.cs 26).grow (Gr.alloc _ (Obj.cells #[.int .i64 0, .int .i64 0] 24)))
  have HS4 := Lib.hid (show Box ((w.alloc (Obj.cells r.cs.toArray 26)).alloc (Obj.cells #[.int .i64 0, .int .i64 0] 24)) (w.heap.size + 1) [.int .i64 0, .int .i64 0] 24 by
    have := Box.fresh (w.alloc (Obj.cells r.cs.toArray 26)) [.int .i64 0, .int .i64 0] 24
    simpa using this)
  have HG := Lib.hid (show Gr w ((w.alloc (Obj.cells r.cs.toArray 26)).alloc (Obj.cells #[.int .i64 0, .int .i64 0] 24)) from (Gr.alloc _ _).tr (Gr.alloc _ _))
  unfold Rr.cs at HB HG HS4
  unfold Rr.val at *
  go_enter Try.func31, Try.ntmps31
  apply wp_seq_k
  intro K1 hK1
  have HK1 := Lib.hid hK1
  clear hK1
  go_wp2_with fail
  refine HK1.out _ _ ?_
  clear HK1
  generalize ((w.alloc (Obj.cells #[.slice r.lp r.L.length r.lc, .slice r.rp r.R.length r.rc, .int .i64 r.s, .int .i64 r.t, .int .i64 r.h] 26)).alloc (Obj.cells #[.int .i64 0, .int .i64 0] 24)) = w1 at *
  apply wp_seq_k
  intro K1 hK1
  have HK1 := Lib.hid hK1
  clear hK1
  go_wp2_with fail
  have H57 := Lib.hid (fun W (h : Gr w1 W) => H57.out W (HG.out.tr h))
  have hwx : IntKind.i64.wrap ((r.L.length : Int) - 1) = (r.L.length : Int) - 1 := IntWalk.i64_in _ (by omega)
  refine region2 13 ?_ ?_ ?_
  · kernel_rfl
  · kernel_rfl
  simp only [List.take_succ_cons, List.take_zero, List.drop_succ_cons, List.drop_zero]
  apply chain_eq (D := [(2, none)]) rfl (by kernel_rfl)
  · intro ρ W ⟨p1, p2, p3⟩ hG hF K hK; (try simp [FactsD] at hF); have ⟨hc, hf, hz⟩ := bcell (Gr.tr (Gr.drew _) hG); have HBW := HB.out.grow (Gr.tr (Gr.drew _) hG); obtain ⟨z0, z1, z2, z3, z4⟩ := cells5 HBW; have zl := HBW.lt; go_simp; exact hK _ (gives_val)
  apply chain_eq (D := [(1, none)]) rfl (by kernel_rfl)
  · intro ρ W ⟨p1, p2, p3⟩ hG hF K hK; (try simp [FactsD] at hF); have ⟨hc, hf, hz⟩ := bcell (Gr.tr (Gr.drew _) hG); go_simp; exact hK _ (gives_val)
  apply chain_eq (D := [(2, none)]) rfl (by kernel_rfl)
  · intro ρ W ⟨p1, p2, p3⟩ hG hF K hK; (try simp [FactsD] at hF); have ⟨hc, hf, hz⟩ := bcell (Gr.tr (Gr.drew _) hG); have HBW := HB.out.grow (Gr.tr (Gr.drew _) hG); obtain ⟨z0, z1, z2, z3, z4⟩ := cells5 HBW; have zl := HBW.lt; go_simp; exact hK _ (gives_val)
  apply chain_eq (D := [(16, some 0)]) rfl (by kernel_rfl)
  · intro ρ W ⟨p1, p2, p3⟩ hG hF K hK; (try simp [FactsD] at hF); have ⟨hc, hf, hz⟩ := bcell (Gr.tr (Gr.drew _) hG); have HBW := HB.out.grow (Gr.tr (Gr.drew _) hG); obtain ⟨z0, z1, z2, z3, z4⟩ := cells5 HBW; have zl := HBW.lt; go_simp; exact hK _ (gives_val)
  apply chain_eq (D := [(17, some 0)]) rfl (by kernel_rfl)
  · intro ρ W ⟨p1, p2, p3⟩ hG hF K hK; (try simp [FactsD] at hF); have ⟨hc, hf, hz⟩ := bcell (Gr.tr (Gr.drew _) hG); have HBW := HB.out.grow (Gr.tr (Gr.drew _) hG); obtain ⟨z0, z1, z2, z3, z4⟩ := cells5 HBW; have zl := HBW.lt; go_simp; exact hK _ (gives_val)
  apply chain_eq (D := [(18, some 0)]) rfl (by kernel_rfl)
  · intro ρ W ⟨p1, p2, p3⟩ hG hF K hK; (try simp [FactsD] at hF); have ⟨hc, hf, hz⟩ := bcell (Gr.tr (Gr.drew _) hG); go_simp; exact hK _ (gives_val)
  apply chain_eq (D := [(15, some 4), (19, some 0)]) rfl (by kernel_rfl)
  · intro ρ W ⟨p1, p2, p3⟩ hG hF K hK; (try simp [FactsD] at hF); have ⟨hc, hf, hz⟩ := bcell (Gr.tr (Gr.drew _) hG); go_simp; exact hK _ (gives_call (in72_any _ _ _ _))
  refine chain_any (V := (fun v W' => ∃ p c, v = .tuple #[.slice p (([] : List (List (Nat × Nat)))).length c, .int .i64 1] ∧ WsIn (.slice p (([] : List (List (Nat × Nat)))).length c) (([] : List (List (Nat × Nat)))) W')) (D := [(14, some 6), (20, some 0)]) rfl (by kernel_rfl) (fun v W W' ⟨p, c, h1, h2⟩ hg => ⟨p, c, h1, h2.grow hg⟩) ?_ ?_
  · intro ρ W ⟨p1, p2, p3⟩ hG hF K hK; (try simp [FactsD] at hF); have ⟨hc, hf, hz⟩ := bcell (Gr.tr (Gr.drew _) hG); go_simp; exact hK _ (gives_rel ((H57.out _ (Gr.tr (Gr.drew _) hG)).mono fun e W' ⟨⟨o, h1, h2⟩, h3⟩ => by obtain ⟨p, c, rfl, -⟩ := id h2; exact ⟨⟨_, h1, p, c, rfl, h2⟩, h3⟩))
  refine chain_any (V := (fun v W' => ∃ p c, v = .tuple #[.slice p (([] : List (List (Nat × Nat)))).length c, .int .i64 1] ∧ WsIn (.slice p (([] : List (List (Nat × Nat)))).length c) (([] : List (List (Nat × Nat)))) W')) (D := [(21, some 0)]) rfl (by kernel_rfl) (fun v W W' ⟨p, c, h1, h2⟩ hg => ⟨p, c, h1, h2.grow hg⟩) ?_ ?_
  · intro ρ W ⟨p1, p2, p3⟩ hG hF K hK; (try simp [FactsD] at hF); have ⟨hc, hf, hz⟩ := bcell (Gr.tr (Gr.drew _) hG); obtain ⟨p', c', hv, hw⟩ := hF; go_simp; exact hK _ (⟨⟨p', c', rfl, hw⟩, Gr.same _⟩)
  refine chain_any (V := (fun v W' => ∃ p c, v = .slice p (([] : List (List (Nat × Nat)))).length c ∧ WsIn (.slice p (([] : List (List (Nat × Nat)))).length c) (([] : List (List (Nat × Nat)))) W')) (D := [(13, some 0)]) rfl (by kernel_rfl) (fun v W W' ⟨p, c, h1, h2⟩ hg => ⟨p, c, h1, h2.grow hg⟩) ?_ ?_
  · intro ρ W ⟨p1, p2, p3⟩ hG hF K hK; (try simp [FactsD] at hF); have ⟨hc, hf, hz⟩ := bcell (Gr.tr (Gr.drew _) hG); obtain ⟨p', c', hv, hw⟩ := hF; go_simp; exact hK _ (⟨⟨p', c', rfl, hw⟩, Gr.same _⟩)
  apply chain_eq (D := [(13, some 1)]) rfl (by kernel_rfl)
  · intro ρ W ⟨p1, p2, p3⟩ hG hF K hK; (try simp [FactsD] at hF); have ⟨hc, hf, hz⟩ := bcell (Gr.tr (Gr.drew _) hG); obtain ⟨p', c', hv, hw⟩ := hF; go_simp; exact hK _ (gives_val)
  refine chain_any (V := (fun v W' => ∃ p c, v = .slice p (([] : List (List (Nat × Nat)))).length c ∧ WsIn (.slice p (([] : List (List (Nat × Nat)))).length c) (([] : List (List (Nat × Nat)))) W')) (D := [(22, some 1)]) rfl (by kernel_rfl) (fun v W W' ⟨p, c, h1, h2⟩ hg => ⟨p, c, h1, h2.grow hg⟩) ?_ ?_
  · intro ρ W ⟨p1, p2, p3⟩ hG hF K hK; (try simp [FactsD] at hF); have ⟨hc, hf, hz⟩ := bcell (Gr.tr (Gr.drew _) hG); obtain ⟨p', c', hv, hw⟩ := hF; go_simp; exact hK _ (⟨⟨p', c', rfl, hw⟩, Gr.same _⟩)
  apply chain_eq (D := [(23, some 1)]) rfl (by kernel_rfl)
  · intro ρ W ⟨p1, p2, p3⟩ hG hF K hK; (try simp [FactsD] at hF); have ⟨hc, hf, hz⟩ := bcell (Gr.tr (Gr.drew _) hG); go_simp; exact hK _ (gives_val)
  refine chain_done ?_
  intro vs W hG hV
  obtain ⟨e12, e11, -⟩ := hV
  simp only [Nat.reduceSub] at e11
  simp only [Nat.reduceSub] at e12
  simp only [lay, Act.put, List.getElem?_toArray, List.getElem?_cons_succ, List.getElem?_cons_zero, Option.bind_some, List.setIfInBounds_toArray, List.set_cons_succ, List.set_cons_zero]
  generalize vs 0 = v0
  generalize vs 1 = v1
  generalize vs 2 = v2
  generalize vs 3 = v3
  generalize vs 4 = v4
  generalize vs 5 = v5
  generalize vs 6 = v6
  generalize vs 7 = v7
  generalize vs 8 = v8
  generalize vs 9 = v9
  generalize vs 10 = v10
  generalize vs 11 = v11 at *
  generalize vs 12 = v12 at *
  subst e12
  obtain ⟨hc, hf, hz⟩ := bcell hG
  clear hwx
  obtain ⟨po, co, rfl, hwo⟩ := e11
  have HGW := Lib.hid (show Gr w1 W from hG)
  have HO := Lib.hid hwo
  have HS5 := Lib.hid (HS4.out.grow HGW.out)
  clear hG hwo hc hf hz HS4
  go_wp2_with fail
  refine HK1.out _ _ ?_
  clear HK1
  obtain ⟨y0, y1, yf0, yf1, yl⟩ := HS5.out.two
  go_wp2_with fail
  exact bodyPost_ret (v := .tuple #[.agg #[.int .i64 0, .int .i64 0], .int .i64 1]) (by simp [results, Try.f31, go_sem, *]) rfl ⟨rfl, ((HG.out.tr HGW.out).stc2 (by omega)).stc2 (by omega)⟩
set_option maxRecDepth 100000 in
set_option maxHeartbeats 8000000 in
theorem rshift_mark (r : Rr) (i : Int) (w : World) (hl : MksAt r.L r.lp w) (hr : MksAt r.R r.rp w) (hok : r.ok = true) (hm : isM i r.L.length = false) (hL : r.L.length ≤ 1000) :
    Calls Try.prog 31 #[r.val, .int .i64 i] w fun e w' => e = .returned (.tuple #[.agg #[.int .i64 0, .int .i64 0], .int .i64 2]) ∧ Below w.heap.size w w' := by
  have H57 := Lib.hid (show ∀ W, Gr w W → Calls Try.prog 57 #[r.val, .bool (decide (0 ≤ i) && decide (i ≤ (r.L.length : Int) - 1))] W fun e w' => (∃ o, e = .returned (.tuple #[o, .int .i64 2]) ∧ WsIn o ([] : List (List (Nat × Nat))) w') ∧ Below W.heap.size W w' from fun W hg => by rw [isM_in, hm]; exact opn57_mark r W (hl.grow hg) (hr.grow hg) hok)
  clear hl hr hok hm
  have HB := Lib.hid ((Box.fresh w r.cs 26).grow (Gr.alloc _ (Obj.cells #[.int .i64 0, .int .i64 0] 24)))
  have HS4 := Lib.hid (show Box ((w.alloc (Obj.cells r.cs.toArray 26)).alloc (Obj.cells #[.int .i64 0, .int .i64 0] 24)) (w.heap.size + 1) [.int .i64 0, .int .i64 0] 24 by
    have := Box.fresh (w.alloc (Obj.cells r.cs.toArray 26)) [.int .i64 0, .int .i64 0] 24
    simpa using this)
  have HG := Lib.hid (show Gr w ((w.alloc (Obj.cells r.cs.toArray 26)).alloc (Obj.cells #[.int .i64 0, .int .i64 0] 24)) from (Gr.alloc _ _).tr (Gr.alloc _ _))
  unfold Rr.cs at HB HG HS4
  unfold Rr.val at *
  go_enter Try.func31, Try.ntmps31
  apply wp_seq_k
  intro K1 hK1
  have HK1 := Lib.hid hK1
  clear hK1
  go_wp2_with fail
  refine HK1.out _ _ ?_
  clear HK1
  generalize ((w.alloc (Obj.cells #[.slice r.lp r.L.length r.lc, .slice r.rp r.R.length r.rc, .int .i64 r.s, .int .i64 r.t, .int .i64 r.h] 26)).alloc (Obj.cells #[.int .i64 0, .int .i64 0] 24)) = w1 at *
  apply wp_seq_k
  intro K1 hK1
  have HK1 := Lib.hid hK1
  clear hK1
  go_wp2_with fail
  have H57 := Lib.hid (fun W (h : Gr w1 W) => H57.out W (HG.out.tr h))
  have hwx : IntKind.i64.wrap ((r.L.length : Int) - 1) = (r.L.length : Int) - 1 := IntWalk.i64_in _ (by omega)
  refine region2 13 ?_ ?_ ?_
  · kernel_rfl
  · kernel_rfl
  simp only [List.take_succ_cons, List.take_zero, List.drop_succ_cons, List.drop_zero]
  apply chain_eq (D := [(2, none)]) rfl (by kernel_rfl)
  · intro ρ W ⟨p1, p2, p3⟩ hG hF K hK; (try simp [FactsD] at hF); have ⟨hc, hf, hz⟩ := bcell (Gr.tr (Gr.drew _) hG); have HBW := HB.out.grow (Gr.tr (Gr.drew _) hG); obtain ⟨z0, z1, z2, z3, z4⟩ := cells5 HBW; have zl := HBW.lt; go_simp; exact hK _ (gives_val)
  apply chain_eq (D := [(1, none)]) rfl (by kernel_rfl)
  · intro ρ W ⟨p1, p2, p3⟩ hG hF K hK; (try simp [FactsD] at hF); have ⟨hc, hf, hz⟩ := bcell (Gr.tr (Gr.drew _) hG); go_simp; exact hK _ (gives_val)
  apply chain_eq (D := [(2, none)]) rfl (by kernel_rfl)
  · intro ρ W ⟨p1, p2, p3⟩ hG hF K hK; (try simp [FactsD] at hF); have ⟨hc, hf, hz⟩ := bcell (Gr.tr (Gr.drew _) hG); have HBW := HB.out.grow (Gr.tr (Gr.drew _) hG); obtain ⟨z0, z1, z2, z3, z4⟩ := cells5 HBW; have zl := HBW.lt; go_simp; exact hK _ (gives_val)
  apply chain_eq (D := [(16, some 0)]) rfl (by kernel_rfl)
  · intro ρ W ⟨p1, p2, p3⟩ hG hF K hK; (try simp [FactsD] at hF); have ⟨hc, hf, hz⟩ := bcell (Gr.tr (Gr.drew _) hG); have HBW := HB.out.grow (Gr.tr (Gr.drew _) hG); obtain ⟨z0, z1, z2, z3, z4⟩ := cells5 HBW; have zl := HBW.lt; go_simp; exact hK _ (gives_val)
  apply chain_eq (D := [(17, some 0)]) rfl (by kernel_rfl)
  · intro ρ W ⟨p1, p2, p3⟩ hG hF K hK; (try simp [FactsD] at hF); have ⟨hc, hf, hz⟩ := bcell (Gr.tr (Gr.drew _) hG); have HBW := HB.out.grow (Gr.tr (Gr.drew _) hG); obtain ⟨z0, z1, z2, z3, z4⟩ := cells5 HBW; have zl := HBW.lt; go_simp; exact hK _ (gives_val)
  apply chain_eq (D := [(18, some 0)]) rfl (by kernel_rfl)
  · intro ρ W ⟨p1, p2, p3⟩ hG hF K hK; (try simp [FactsD] at hF); have ⟨hc, hf, hz⟩ := bcell (Gr.tr (Gr.drew _) hG); go_simp; exact hK _ (gives_val)
  apply chain_eq (D := [(15, some 4), (19, some 0)]) rfl (by kernel_rfl)
  · intro ρ W ⟨p1, p2, p3⟩ hG hF K hK; (try simp [FactsD] at hF); have ⟨hc, hf, hz⟩ := bcell (Gr.tr (Gr.drew _) hG); go_simp; exact hK _ (gives_call (in72_any _ _ _ _))
  refine chain_any (V := (fun v W' => ∃ p c, v = .tuple #[.slice p (([] : List (List (Nat × Nat)))).length c, .int .i64 2] ∧ WsIn (.slice p (([] : List (List (Nat × Nat)))).length c) (([] : List (List (Nat × Nat)))) W')) (D := [(14, some 6), (20, some 0)]) rfl (by kernel_rfl) (fun v W W' ⟨p, c, h1, h2⟩ hg => ⟨p, c, h1, h2.grow hg⟩) ?_ ?_
  · intro ρ W ⟨p1, p2, p3⟩ hG hF K hK; (try simp [FactsD] at hF); have ⟨hc, hf, hz⟩ := bcell (Gr.tr (Gr.drew _) hG); go_simp; exact hK _ (gives_rel ((H57.out _ (Gr.tr (Gr.drew _) hG)).mono fun e W' ⟨⟨o, h1, h2⟩, h3⟩ => by obtain ⟨p, c, rfl, -⟩ := id h2; exact ⟨⟨_, h1, p, c, rfl, h2⟩, h3⟩))
  refine chain_any (V := (fun v W' => ∃ p c, v = .tuple #[.slice p (([] : List (List (Nat × Nat)))).length c, .int .i64 2] ∧ WsIn (.slice p (([] : List (List (Nat × Nat)))).length c) (([] : List (List (Nat × Nat)))) W')) (D := [(21, some 0)]) rfl (by kernel_rfl) (fun v W W' ⟨p, c, h1, h2⟩ hg => ⟨p, c, h1, h2.grow hg⟩) ?_ ?_
  · intro ρ W ⟨p1, p2, p3⟩ hG hF K hK; (try simp [FactsD] at hF); have ⟨hc, hf, hz⟩ := bcell (Gr.tr (Gr.drew _) hG); obtain ⟨p', c', hv, hw⟩ := hF; go_simp; exact hK _ (⟨⟨p', c', rfl, hw⟩, Gr.same _⟩)
  refine chain_any (V := (fun v W' => ∃ p c, v = .slice p (([] : List (List (Nat × Nat)))).length c ∧ WsIn (.slice p (([] : List (List (Nat × Nat)))).length c) (([] : List (List (Nat × Nat)))) W')) (D := [(13, some 0)]) rfl (by kernel_rfl) (fun v W W' ⟨p, c, h1, h2⟩ hg => ⟨p, c, h1, h2.grow hg⟩) ?_ ?_
  · intro ρ W ⟨p1, p2, p3⟩ hG hF K hK; (try simp [FactsD] at hF); have ⟨hc, hf, hz⟩ := bcell (Gr.tr (Gr.drew _) hG); obtain ⟨p', c', hv, hw⟩ := hF; go_simp; exact hK _ (⟨⟨p', c', rfl, hw⟩, Gr.same _⟩)
  apply chain_eq (D := [(13, some 1)]) rfl (by kernel_rfl)
  · intro ρ W ⟨p1, p2, p3⟩ hG hF K hK; (try simp [FactsD] at hF); have ⟨hc, hf, hz⟩ := bcell (Gr.tr (Gr.drew _) hG); obtain ⟨p', c', hv, hw⟩ := hF; go_simp; exact hK _ (gives_val)
  refine chain_any (V := (fun v W' => ∃ p c, v = .slice p (([] : List (List (Nat × Nat)))).length c ∧ WsIn (.slice p (([] : List (List (Nat × Nat)))).length c) (([] : List (List (Nat × Nat)))) W')) (D := [(22, some 1)]) rfl (by kernel_rfl) (fun v W W' ⟨p, c, h1, h2⟩ hg => ⟨p, c, h1, h2.grow hg⟩) ?_ ?_
  · intro ρ W ⟨p1, p2, p3⟩ hG hF K hK; (try simp [FactsD] at hF); have ⟨hc, hf, hz⟩ := bcell (Gr.tr (Gr.drew _) hG); obtain ⟨p', c', hv, hw⟩ := hF; go_simp; exact hK _ (⟨⟨p', c', rfl, hw⟩, Gr.same _⟩)
  apply chain_eq (D := [(23, some 1)]) rfl (by kernel_rfl)
  · intro ρ W ⟨p1, p2, p3⟩ hG hF K hK; (try simp [FactsD] at hF); have ⟨hc, hf, hz⟩ := bcell (Gr.tr (Gr.drew _) hG); go_simp; exact hK _ (gives_val)
  refine chain_done ?_
  intro vs W hG hV
  obtain ⟨e12, e11, -⟩ := hV
  simp only [Nat.reduceSub] at e11
  simp only [Nat.reduceSub] at e12
  simp only [lay, Act.put, List.getElem?_toArray, List.getElem?_cons_succ, List.getElem?_cons_zero, Option.bind_some, List.setIfInBounds_toArray, List.set_cons_succ, List.set_cons_zero]
  generalize vs 0 = v0
  generalize vs 1 = v1
  generalize vs 2 = v2
  generalize vs 3 = v3
  generalize vs 4 = v4
  generalize vs 5 = v5
  generalize vs 6 = v6
  generalize vs 7 = v7
  generalize vs 8 = v8
  generalize vs 9 = v9
  generalize vs 10 = v10
  generalize vs 11 = v11 at *
  generalize vs 12 = v12 at *
  subst e12
  obtain ⟨hc, hf, hz⟩ := bcell hG
  clear hwx
  obtain ⟨po, co, rfl, hwo⟩ := e11
  have HGW := Lib.hid (show Gr w1 W from hG)
  have HO := Lib.hid hwo
  have HS5 := Lib.hid (HS4.out.grow HGW.out)
  clear hG hwo hc hf hz HS4
  go_wp2_with fail
  refine HK1.out _ _ ?_
  clear HK1
  obtain ⟨y0, y1, yf0, yf1, yl⟩ := HS5.out.two
  go_wp2_with fail
  exact bodyPost_ret (v := .tuple #[.agg #[.int .i64 0, .int .i64 0], .int .i64 2]) (by simp [results, Try.f31, go_sem, *]) rfl ⟨rfl, ((HG.out.tr HGW.out).stc2 (by omega)).stc2 (by omega)⟩
set_option maxRecDepth 100000 in
set_option maxHeartbeats 8000000 in
theorem rshift_zero (r : Rr) (i : Int) (w : World) (hl : MksAt r.L r.lp w) (hr : MksAt r.R r.rp w) (hok : r.ok = true) (hm : isM i r.L.length = true) (hz : r.ways = []) (hL : r.L.length ≤ 1000) :
    Calls Try.prog 31 #[r.val, .int .i64 i] w fun e w' => e = .returned (.tuple #[.agg #[.int .i64 0, .int .i64 0], .int .i64 4]) ∧ Below w.heap.size w w' := by
  have H57 := Lib.hid (show ∀ W, Gr w W → Calls Try.prog 57 #[r.val, .bool (decide (0 ≤ i) && decide (i ≤ (r.L.length : Int) - 1))] W fun e w' => (∃ o, e = .returned (.tuple #[o, .int .i64 4]) ∧ WsIn o ([] : List (List (Nat × Nat))) w') ∧ Below W.heap.size W w' from fun W hg => by rw [isM_in, hm]; exact opn57_zero r W (hl.grow hg) (hr.grow hg) hok hz)
  clear hl hr hok hm hz
  have HB := Lib.hid ((Box.fresh w r.cs 26).grow (Gr.alloc _ (Obj.cells #[.int .i64 0, .int .i64 0] 24)))
  have HS4 := Lib.hid (show Box ((w.alloc (Obj.cells r.cs.toArray 26)).alloc (Obj.cells #[.int .i64 0, .int .i64 0] 24)) (w.heap.size + 1) [.int .i64 0, .int .i64 0] 24 by
    have := Box.fresh (w.alloc (Obj.cells r.cs.toArray 26)) [.int .i64 0, .int .i64 0] 24
    simpa using this)
  have HG := Lib.hid (show Gr w ((w.alloc (Obj.cells r.cs.toArray 26)).alloc (Obj.cells #[.int .i64 0, .int .i64 0] 24)) from (Gr.alloc _ _).tr (Gr.alloc _ _))
  unfold Rr.cs at HB HG HS4
  unfold Rr.val at *
  go_enter Try.func31, Try.ntmps31
  apply wp_seq_k
  intro K1 hK1
  have HK1 := Lib.hid hK1
  clear hK1
  go_wp2_with fail
  refine HK1.out _ _ ?_
  clear HK1
  generalize ((w.alloc (Obj.cells #[.slice r.lp r.L.length r.lc, .slice r.rp r.R.length r.rc, .int .i64 r.s, .int .i64 r.t, .int .i64 r.h] 26)).alloc (Obj.cells #[.int .i64 0, .int .i64 0] 24)) = w1 at *
  apply wp_seq_k
  intro K1 hK1
  have HK1 := Lib.hid hK1
  clear hK1
  go_wp2_with fail
  have H57 := Lib.hid (fun W (h : Gr w1 W) => H57.out W (HG.out.tr h))
  have hwx : IntKind.i64.wrap ((r.L.length : Int) - 1) = (r.L.length : Int) - 1 := IntWalk.i64_in _ (by omega)
  refine region2 13 ?_ ?_ ?_
  · kernel_rfl
  · kernel_rfl
  simp only [List.take_succ_cons, List.take_zero, List.drop_succ_cons, List.drop_zero]
  apply chain_eq (D := [(2, none)]) rfl (by kernel_rfl)
  · intro ρ W ⟨p1, p2, p3⟩ hG hF K hK; (try simp [FactsD] at hF); have ⟨hc, hf, hz⟩ := bcell (Gr.tr (Gr.drew _) hG); have HBW := HB.out.grow (Gr.tr (Gr.drew _) hG); obtain ⟨z0, z1, z2, z3, z4⟩ := cells5 HBW; have zl := HBW.lt; go_simp; exact hK _ (gives_val)
  apply chain_eq (D := [(1, none)]) rfl (by kernel_rfl)
  · intro ρ W ⟨p1, p2, p3⟩ hG hF K hK; (try simp [FactsD] at hF); have ⟨hc, hf, hz⟩ := bcell (Gr.tr (Gr.drew _) hG); go_simp; exact hK _ (gives_val)
  apply chain_eq (D := [(2, none)]) rfl (by kernel_rfl)
  · intro ρ W ⟨p1, p2, p3⟩ hG hF K hK; (try simp [FactsD] at hF); have ⟨hc, hf, hz⟩ := bcell (Gr.tr (Gr.drew _) hG); have HBW := HB.out.grow (Gr.tr (Gr.drew _) hG); obtain ⟨z0, z1, z2, z3, z4⟩ := cells5 HBW; have zl := HBW.lt; go_simp; exact hK _ (gives_val)
  apply chain_eq (D := [(16, some 0)]) rfl (by kernel_rfl)
  · intro ρ W ⟨p1, p2, p3⟩ hG hF K hK; (try simp [FactsD] at hF); have ⟨hc, hf, hz⟩ := bcell (Gr.tr (Gr.drew _) hG); have HBW := HB.out.grow (Gr.tr (Gr.drew _) hG); obtain ⟨z0, z1, z2, z3, z4⟩ := cells5 HBW; have zl := HBW.lt; go_simp; exact hK _ (gives_val)
  apply chain_eq (D := [(17, some 0)]) rfl (by kernel_rfl)
  · intro ρ W ⟨p1, p2, p3⟩ hG hF K hK; (try simp [FactsD] at hF); have ⟨hc, hf, hz⟩ := bcell (Gr.tr (Gr.drew _) hG); have HBW := HB.out.grow (Gr.tr (Gr.drew _) hG); obtain ⟨z0, z1, z2, z3, z4⟩ := cells5 HBW; have zl := HBW.lt; go_simp; exact hK _ (gives_val)
  apply chain_eq (D := [(18, some 0)]) rfl (by kernel_rfl)
  · intro ρ W ⟨p1, p2, p3⟩ hG hF K hK; (try simp [FactsD] at hF); have ⟨hc, hf, hz⟩ := bcell (Gr.tr (Gr.drew _) hG); go_simp; exact hK _ (gives_val)
  apply chain_eq (D := [(15, some 4), (19, some 0)]) rfl (by kernel_rfl)
  · intro ρ W ⟨p1, p2, p3⟩ hG hF K hK; (try simp [FactsD] at hF); have ⟨hc, hf, hz⟩ := bcell (Gr.tr (Gr.drew _) hG); go_simp; exact hK _ (gives_call (in72_any _ _ _ _))
  refine chain_any (V := (fun v W' => ∃ p c, v = .tuple #[.slice p (([] : List (List (Nat × Nat)))).length c, .int .i64 4] ∧ WsIn (.slice p (([] : List (List (Nat × Nat)))).length c) (([] : List (List (Nat × Nat)))) W')) (D := [(14, some 6), (20, some 0)]) rfl (by kernel_rfl) (fun v W W' ⟨p, c, h1, h2⟩ hg => ⟨p, c, h1, h2.grow hg⟩) ?_ ?_
  · intro ρ W ⟨p1, p2, p3⟩ hG hF K hK; (try simp [FactsD] at hF); have ⟨hc, hf, hz⟩ := bcell (Gr.tr (Gr.drew _) hG); go_simp; exact hK _ (gives_rel ((H57.out _ (Gr.tr (Gr.drew _) hG)).mono fun e W' ⟨⟨o, h1, h2⟩, h3⟩ => by obtain ⟨p, c, rfl, -⟩ := id h2; exact ⟨⟨_, h1, p, c, rfl, h2⟩, h3⟩))
  refine chain_any (V := (fun v W' => ∃ p c, v = .tuple #[.slice p (([] : List (List (Nat × Nat)))).length c, .int .i64 4] ∧ WsIn (.slice p (([] : List (List (Nat × Nat)))).length c) (([] : List (List (Nat × Nat)))) W')) (D := [(21, some 0)]) rfl (by kernel_rfl) (fun v W W' ⟨p, c, h1, h2⟩ hg => ⟨p, c, h1, h2.grow hg⟩) ?_ ?_
  · intro ρ W ⟨p1, p2, p3⟩ hG hF K hK; (try simp [FactsD] at hF); have ⟨hc, hf, hz⟩ := bcell (Gr.tr (Gr.drew _) hG); obtain ⟨p', c', hv, hw⟩ := hF; go_simp; exact hK _ (⟨⟨p', c', rfl, hw⟩, Gr.same _⟩)
  refine chain_any (V := (fun v W' => ∃ p c, v = .slice p (([] : List (List (Nat × Nat)))).length c ∧ WsIn (.slice p (([] : List (List (Nat × Nat)))).length c) (([] : List (List (Nat × Nat)))) W')) (D := [(13, some 0)]) rfl (by kernel_rfl) (fun v W W' ⟨p, c, h1, h2⟩ hg => ⟨p, c, h1, h2.grow hg⟩) ?_ ?_
  · intro ρ W ⟨p1, p2, p3⟩ hG hF K hK; (try simp [FactsD] at hF); have ⟨hc, hf, hz⟩ := bcell (Gr.tr (Gr.drew _) hG); obtain ⟨p', c', hv, hw⟩ := hF; go_simp; exact hK _ (⟨⟨p', c', rfl, hw⟩, Gr.same _⟩)
  apply chain_eq (D := [(13, some 1)]) rfl (by kernel_rfl)
  · intro ρ W ⟨p1, p2, p3⟩ hG hF K hK; (try simp [FactsD] at hF); have ⟨hc, hf, hz⟩ := bcell (Gr.tr (Gr.drew _) hG); obtain ⟨p', c', hv, hw⟩ := hF; go_simp; exact hK _ (gives_val)
  refine chain_any (V := (fun v W' => ∃ p c, v = .slice p (([] : List (List (Nat × Nat)))).length c ∧ WsIn (.slice p (([] : List (List (Nat × Nat)))).length c) (([] : List (List (Nat × Nat)))) W')) (D := [(22, some 1)]) rfl (by kernel_rfl) (fun v W W' ⟨p, c, h1, h2⟩ hg => ⟨p, c, h1, h2.grow hg⟩) ?_ ?_
  · intro ρ W ⟨p1, p2, p3⟩ hG hF K hK; (try simp [FactsD] at hF); have ⟨hc, hf, hz⟩ := bcell (Gr.tr (Gr.drew _) hG); obtain ⟨p', c', hv, hw⟩ := hF; go_simp; exact hK _ (⟨⟨p', c', rfl, hw⟩, Gr.same _⟩)
  apply chain_eq (D := [(23, some 1)]) rfl (by kernel_rfl)
  · intro ρ W ⟨p1, p2, p3⟩ hG hF K hK; (try simp [FactsD] at hF); have ⟨hc, hf, hz⟩ := bcell (Gr.tr (Gr.drew _) hG); go_simp; exact hK _ (gives_val)
  refine chain_done ?_
  intro vs W hG hV
  obtain ⟨e12, e11, -⟩ := hV
  simp only [Nat.reduceSub] at e11
  simp only [Nat.reduceSub] at e12
  simp only [lay, Act.put, List.getElem?_toArray, List.getElem?_cons_succ, List.getElem?_cons_zero, Option.bind_some, List.setIfInBounds_toArray, List.set_cons_succ, List.set_cons_zero]
  generalize vs 0 = v0
  generalize vs 1 = v1
  generalize vs 2 = v2
  generalize vs 3 = v3
  generalize vs 4 = v4
  generalize vs 5 = v5
  generalize vs 6 = v6
  generalize vs 7 = v7
  generalize vs 8 = v8
  generalize vs 9 = v9
  generalize vs 10 = v10
  generalize vs 11 = v11 at *
  generalize vs 12 = v12 at *
  subst e12
  obtain ⟨hc, hf, hz⟩ := bcell hG
  clear hwx
  obtain ⟨po, co, rfl, hwo⟩ := e11
  have HGW := Lib.hid (show Gr w1 W from hG)
  have HO := Lib.hid hwo
  have HS5 := Lib.hid (HS4.out.grow HGW.out)
  clear hG hwo hc hf hz HS4
  go_wp2_with fail
  refine HK1.out _ _ ?_
  clear HK1
  obtain ⟨y0, y1, yf0, yf1, yl⟩ := HS5.out.two
  go_wp2_with fail
  exact bodyPost_ret (v := .tuple #[.agg #[.int .i64 0, .int .i64 0], .int .i64 4]) (by simp [results, Try.f31, go_sem, *]) rfl ⟨rfl, ((HG.out.tr HGW.out).stc2 (by omega)).stc2 (by omega)⟩

end Go.Proofs.Ytjlaoiimbhlafaa
