import Derived.Test.YtofdoadpaedogaaR5
import Derived.Test.YtofdoadpaedogaaG3
namespace Go.Proofs.Ytofdoadpaedogaa
open Go.RowKit

theorem Pr.ropen_true (p : Pr) : p.ropen true = p.power := by
  unfold Pr.ropen
  rw [if_pos rfl]
  cases h : p.ok with
  | false => rw [if_neg (by simp)]; unfold Pr.power; rw [if_neg (by simp [h])]
  | true => rw [if_pos rfl]
set_option maxRecDepth 100000 in
set_option maxHeartbeats 2000000 in
theorem rpower_any (p : Pr) (v : Value) (w : World) (hT : ThingsAt p.l v w) :
    Calls Try.prog 18 #[.agg #[.int .i64 p.fl, .int .i64 p.fh, .int .i64 p.bl, .int .i64 p.bh, .int .i64 p.ti, .int .i64 p.ne, .int .i64 p.fa, v]] w fun e w' => e = .returned (.tuple #[.agg #[.int .i64 p.power.1, .int .i64 p.power.2.1], .int .i64 p.power.2.2]) ∧ Below w.heap.size w w' := by
  obtain ⟨x, y, ee, h⟩ : ∃ x y e, p.power = (x, y, e) := ⟨_, _, _, rfl⟩
  rw [h]
  have HO := Lib.hid (p.ropen_true.trans h)
  clear h
  have TH := Lib.hid (fun (W : World) (hg : Gr ((w.alloc (.cells #[.int .i64 p.fl, .int .i64 p.fh, .int .i64 p.bl, .int .i64 p.bh, .int .i64 p.ti, .int .i64 p.ne, .int .i64 p.fa, v] 26)).alloc (.cells #[.int .i64 0, .int .i64 0] 23)) W) => ThingsAt.lasts p.l _ _ _ hT (((Gr.alloc _ _).tr (Gr.alloc _ _)).tr hg))
  have hg0 := Gr.same ((w.alloc (.cells #[.int .i64 p.fl, .int .i64 p.fh, .int .i64 p.bl, .int .i64 p.bh, .int .i64 p.ti, .int .i64 p.ne, .int .i64 p.fa, v] 26)).alloc (.cells #[.int .i64 0, .int .i64 0] 23))
  have hal := @cal
  clear hT
  go_enter Try.func18, Try.ntmps18
  go_wp2_with fail
  refine (ropen_is HO.out (TH.out _ hg0)).mono ?_
  rintro e w1 ⟨rfl, hb1⟩
  have gg1 : Gr _ _ := hb1
  have hg1 := Gr.tr hg0 gg1
  obtain ⟨hc, hf, hz⟩ := bcell hg1
  have s10 : w.heap.size < w1.heap.size := hz _ (by first | (simp; done) | (simp; omega) | omega)
  have s11 : w.heap.size + 1 < w1.heap.size := hz _ (by first | (simp; done) | (simp; omega) | omega)
  have n10 := Nat.ne_of_lt s10
  have n11 := Nat.ne_of_lt s11
  go_wp2
  exact bodyPost_ret (v := .tuple #[.agg #[.int .i64 x, .int .i64 y], .int .i64 ee]) (by simp [results, Try.results18, go_sem, hc]) rfl ⟨rfl, ((show Below w.heap.size w _ from ((Gr.alloc _ _).tr (Gr.alloc _ _)).tr hg1).setCell (by first | (simp; done) | (simp; omega) | omega) _).setCell (by first | (simp; done) | (simp; omega) | omega) _⟩
set_option maxRecDepth 100000 in
set_option maxHeartbeats 2000000 in
theorem rstands_err (p : Pr) (v : Value) (w : World) (hT : ThingsAt p.l v w) (z : Int) (b : Bool) (x y er : Int) (hb : Hid ((decide (p.ne ≤ z) && decide (z ≤ p.fa)) = b)) (ho : Hid (p.ropen b = (x, y, er))) (he : (er != 0) = true) :
    Calls Try.prog 20 #[.agg #[.int .i64 p.fl, .int .i64 p.fh, .int .i64 p.bl, .int .i64 p.bh, .int .i64 p.ti, .int .i64 p.ne, .int .i64 p.fa, v], .int .i64 z] w fun e w' => e = .returned (.tuple #[.agg #[.int .i64 0, .int .i64 0], .int .i64 er]) ∧ Below w.heap.size w w' := by
  have TH := Lib.hid (fun (W : World) (hg : Gr ((w.alloc (.cells #[.int .i64 p.fl, .int .i64 p.fh, .int .i64 p.bl, .int .i64 p.bh, .int .i64 p.ti, .int .i64 p.ne, .int .i64 p.fa, v] 26)).alloc (.cells #[.int .i64 0, .int .i64 0] 23)) W) => ThingsAt.lasts p.l _ _ _ hT (((Gr.alloc _ _).tr (Gr.alloc _ _)).tr hg))
  have hg0 := Gr.same ((w.alloc (.cells #[.int .i64 p.fl, .int .i64 p.fh, .int .i64 p.bl, .int .i64 p.bh, .int .i64 p.ti, .int .i64 p.ne, .int .i64 p.fa, v] 26)).alloc (.cells #[.int .i64 0, .int .i64 0] 23))
  have hal := @cal
  clear hT
  go_enter Try.func20, Try.ntmps20
  go_wp2_with fail
  refine regionL 12 10 ?_ ?_ ?_
  · kernel_rfl
  · kernel_rfl
  simp only [List.take_succ_cons, List.take_zero, List.drop_succ_cons, List.drop_zero]
  apply chainB_eq (D := [(2, none)]) rfl (by kernel_rfl)
  · intro ρ W ⟨p1, p2, p3⟩ hG hF K hK; (try simp [FactsD] at hF); have ⟨hc, hf, hz⟩ := bcell (Gr.tr (Gr.drew _) hG); go_simp; exact hK _ (gives_val)
  apply chainB_eq (D := [(1, none)]) rfl (by kernel_rfl)
  · intro ρ W ⟨p1, p2, p3⟩ hG hF K hK; (try simp [FactsD] at hF); have ⟨hc, hf, hz⟩ := bcell (Gr.tr (Gr.drew _) hG); go_simp; exact hK _ (gives_val)
  apply chainB_eq (D := [(2, none)]) rfl (by kernel_rfl)
  · intro ρ W ⟨p1, p2, p3⟩ hG hF K hK; (try simp [FactsD] at hF); have ⟨hc, hf, hz⟩ := bcell (Gr.tr (Gr.drew _) hG); go_simp; exact hK _ (gives_val)
  apply chainB_eq (D := [(11, some 0)]) rfl (by kernel_rfl)
  · intro ρ W ⟨p1, p2, p3⟩ hG hF K hK; (try simp [FactsD, exB] at hF); have ⟨hc, hf, hz⟩ := bcell (Gr.tr (Gr.drew _) hG); go_simp; exact hK _ (gives_val)
  apply chainB_eq (D := [(2, none)]) rfl (by kernel_rfl)
  · intro ρ W ⟨p1, p2, p3⟩ hG hF K hK; (try simp [FactsD] at hF); have ⟨hc, hf, hz⟩ := bcell (Gr.tr (Gr.drew _) hG); go_simp; exact hK _ (gives_val)
  apply chainB_eq (D := [(13, some 0)]) rfl (by kernel_rfl)
  · intro ρ W ⟨p1, p2, p3⟩ hG hF K hK; (try simp [FactsD, exB] at hF); have ⟨hc, hf, hz⟩ := bcell (Gr.tr (Gr.drew _) hG); go_simp; exact hK _ (gives_val)
  apply chainB_eq (D := [(10, some 4), (12, some 2), (14, some 0)]) rfl (by kernel_rfl)
  · intro ρ W ⟨p1, p2, p3⟩ hG hF K hK; (try simp [FactsD, exB] at hF); have ⟨hc, hf, hz⟩ := bcell (Gr.tr (Gr.drew _) hG); go_simp; exact hK _ (gives_call (rin_is hb.out _))
  apply chainB_eq (D := [(9, some 6), (15, some 0)]) rfl (by kernel_rfl)
  · intro ρ W ⟨p1, p2, p3⟩ hG hF K hK; (try simp [FactsD, exB] at hF); have ⟨hc, hf, hz⟩ := bcell (Gr.tr (Gr.drew _) hG); go_simp; exact hK _ (gives_call (ropen_is ho.out (TH.out _ ((Gr.drew _).tr hG))))
  apply chainB_eq (D := [(16, some 0)]) rfl (by kernel_rfl)
  · intro ρ W ⟨p1, p2, p3⟩ hG hF K hK; (try simp [FactsD, exB] at hF); have ⟨hc, hf, hz⟩ := bcell (Gr.tr (Gr.drew _) hG); go_simp; exact hK _ (gives_val)
  apply chainB_eq (D := [(8, some 0)]) rfl (by kernel_rfl)
  · intro ρ W ⟨p1, p2, p3⟩ hG hF K hK; (try simp [FactsD, exB] at hF); have ⟨hc, hf, hz⟩ := bcell (Gr.tr (Gr.drew _) hG); go_simp; exact hK _ (gives_val)
  apply chainB_eq (D := [(8, some 1)]) rfl (by kernel_rfl)
  · intro ρ W ⟨p1, p2, p3⟩ hG hF K hK; (try simp [FactsD, exB] at hF); have ⟨hc, hf, hz⟩ := bcell (Gr.tr (Gr.drew _) hG); go_simp; exact hK _ (gives_val)
  refine chainB_any (V := fun p v W' => NewB [.int .i64 0, .int .i64 0] 23 p v W' ∧ w.heap.size + 1 + 1 ≤ p.1) (D := []) rfl (by kernel_rfl) (fun p v A B h hg => ⟨NewB.lasts _ _ p v A B h.1 hg, h.2⟩) ?_ ?_
  · intro ρ W ⟨p1, p2, p3⟩ hG hF K hK; (try simp [FactsD] at hF); have ⟨hc, hf, hz⟩ := bcell (Gr.tr (Gr.drew _) hG); go_simp; exact hK _ (⟨⟨NewB.new _ _ _, by have := hG.size; simpa using this⟩, Gr.alloc _ _⟩)
  refine chainB_done ⟨?_, ?_⟩
  · intro vs bs W hG hV hdj
    obtain ⟨e11, e10, e9, -⟩ := hV
    simp only [Nat.reduceSub] at e9
    simp only [Nat.reduceSub] at e10
    simp only [Nat.reduceSub] at e11
    clear hdj
    simp only [lay, Act.put, List.getElem?_toArray, List.getElem?_cons_succ, List.getElem?_cons_zero, Option.bind_some, List.setIfInBounds_toArray, List.set_cons_succ, List.set_cons_zero]
    generalize vs 0 = v0
    generalize vs 1 = v1
    generalize vs 2 = v2
    generalize vs 3 = v3
    generalize vs 4 = v4
    generalize vs 5 = v5
    generalize vs 6 = v6
    generalize vs 7 = v7
    generalize vs 8 = v8
    generalize vs 9 = v9 at *
    generalize vs 10 = v10 at *
    generalize vs 11 = v11 at *
    subst e9
    subst e10
    obtain ⟨hc, hf, hz⟩ := bcell hG
    obtain ⟨⟨b11, rfl, hb8, hb8', hB8⟩, hb8n⟩ := e11
    have hl1 : w.heap.size + 1 < b11 := by omega
    have hl0 : w.heap.size < b11 := by omega
    have m0 := Nat.ne_of_lt hl0
    have m1 := Nat.ne_of_lt hl1
    have m2 := (Nat.ne_of_lt hl0).symm
    have m3 := (Nat.ne_of_lt hl1).symm
    obtain ⟨y0_, y1_, yf0, yf1, yl⟩ := hB8.two
    have k0 : w.heap.size < W.heap.size := by omega
    have k1 : w.heap.size + 1 < W.heap.size := by omega
    have HB8 := Lib.hid hB8
    have HGW := Lib.hid (show Gr w W from ((Gr.alloc _ _).tr (Gr.alloc _ _)).tr hG)
    have HG1 := Lib.hid hG
    clear hB8 hb8 hb8' hb8n
    go_wp2
    exact bodyPost_ret (v := .tuple #[.agg #[.int .i64 0, .int .i64 0], .int .i64 er]) (by simp [results, Try.results20, go_sem, hc]) rfl ⟨rfl, (((((show Below w.heap.size w W from HGW.out).setCell (by first | (simp; done) | (simp; omega) | omega) _).setCell (by first | (simp; done) | (simp; omega) | omega) _).setCell (by first | (simp; done) | (simp; omega) | omega) _).setCell (by first | (simp; done) | (simp; omega) | omega) _)⟩
  · intro vs bs W hG hV hdj
    obtain ⟨e11, -, e9, e8, -⟩ := hV
    simp only [Nat.reduceSub, Nat.reduceEqDiff, if_false] at e8
    simp only [Nat.reduceSub, Nat.reduceEqDiff, if_false] at e9
    simp only [Nat.reduceSub, Nat.reduceEqDiff, if_false] at e11
    clear hdj
    refine wpOp_two rfl rfl ?_
    simp only [layL, Nat.reduceEqDiff, if_false, if_true, Act.put, List.getElem?_toArray, List.getElem?_cons_succ, List.getElem?_cons_zero, Option.bind_some, List.setIfInBounds_toArray, List.set_cons_succ, List.set_cons_zero, List.drop_succ_cons, List.drop_zero]
    generalize vs 0 = v0
    generalize vs 1 = v1
    generalize vs 2 = v2
    generalize vs 3 = v3
    generalize vs 4 = v4
    generalize vs 5 = v5
    generalize vs 6 = v6
    generalize vs 7 = v7
    generalize vs 8 = v8 at *
    generalize vs 9 = v9 at *
    generalize vs 11 = v11 at *
    subst e8
    subst e9
    obtain ⟨hc, hf, hz⟩ := bcell hG
    obtain ⟨⟨b11, rfl, hb8, hb8', hB8⟩, hb8n⟩ := e11
    have hl1 : w.heap.size + 1 < b11 := by omega
    have hl0 : w.heap.size < b11 := by omega
    have m0 := Nat.ne_of_lt hl0
    have m1 := Nat.ne_of_lt hl1
    have m2 := (Nat.ne_of_lt hl0).symm
    have m3 := (Nat.ne_of_lt hl1).symm
    obtain ⟨y0_, y1_, yf0, yf1, yl⟩ := hB8.two
    have k0 : w.heap.size < W.heap.size := by omega
    have k1 : w.heap.size + 1 < W.heap.size := by omega
    have HB8 := Lib.hid hB8
    have HGW := Lib.hid (show Gr w W from ((Gr.alloc _ _).tr (Gr.alloc _ _)).tr hG)
    have HG1 := Lib.hid hG
    clear hB8 hb8 hb8' hb8n
    go_wp2
    exact bodyPost_ret (v := .tuple #[.agg #[.int .i64 0, .int .i64 0], .int .i64 er]) (by simp [results, Try.results20, go_sem, hc]) rfl ⟨rfl, (((((show Below w.heap.size w W from HGW.out).setCell (by first | (simp; done) | (simp; omega) | omega) _).setCell (by first | (simp; done) | (simp; omega) | omega) _).setCell (by first | (simp; done) | (simp; omega) | omega) _).setCell (by first | (simp; done) | (simp; omega) | omega) _)⟩
set_option maxRecDepth 100000 in
set_option maxHeartbeats 2000000 in
theorem rstands_ok (p : Pr) (v : Value) (w : World) (hT : ThingsAt p.l v w) (z : Int) (b : Bool) (x y er : Int) (hb : Hid ((decide (p.ne ≤ z) && decide (z ≤ p.fa)) = b)) (ho : Hid (p.ropen b = (x, y, er))) (he : (er != 0) = false) (z0 : 0 < z) (x0 : 0 ≤ x) (x1 : x ≤ 4398046511104) (y0 : 0 ≤ y) (y1 : y ≤ 4398046511104) :
    Calls Try.prog 20 #[.agg #[.int .i64 p.fl, .int .i64 p.fh, .int .i64 p.bl, .int .i64 p.bh, .int .i64 p.ti, .int .i64 p.ne, .int .i64 p.fa, v], .int .i64 z] w fun e w' => e = .returned (.tuple #[.agg #[.int .i64 (x / z), .int .i64 (y / z)], .int .i64 0]) ∧ Below w.heap.size w w' := by
  have TH := Lib.hid (fun (W : World) (hg : Gr ((w.alloc (.cells #[.int .i64 p.fl, .int .i64 p.fh, .int .i64 p.bl, .int .i64 p.bh, .int .i64 p.ti, .int .i64 p.ne, .int .i64 p.fa, v] 26)).alloc (.cells #[.int .i64 0, .int .i64 0] 23)) W) => ThingsAt.lasts p.l _ _ _ hT (((Gr.alloc _ _).tr (Gr.alloc _ _)).tr hg))
  have hg0 := Gr.same ((w.alloc (.cells #[.int .i64 p.fl, .int .i64 p.fh, .int .i64 p.bl, .int .i64 p.bh, .int .i64 p.ti, .int .i64 p.ne, .int .i64 p.fa, v] 26)).alloc (.cells #[.int .i64 0, .int .i64 0] 23))
  have hal := @cal
  obtain ⟨q0, q1⟩ := quo_le (b := z) x0 x1 (by omega)
  obtain ⟨q2, q3⟩ := quo_le (b := z) y0 y1 (by omega)
  have e1 : IntKind.i64.wrap (x.tdiv z) = x / z := by rw [Int.tdiv_eq_ediv_of_nonneg x0]; exact wraps_i64 _ q0 (by omega)
  have e2 : IntKind.i64.wrap (y.tdiv z) = y / z := by rw [Int.tdiv_eq_ediv_of_nonneg y0]; exact wraps_i64 _ q2 (by omega)
  have hzn : ¬ z = 0 := by omega
  clear hT
  go_enter Try.func20, Try.ntmps20
  go_wp2_with fail
  refine regionL 12 10 ?_ ?_ ?_
  · kernel_rfl
  · kernel_rfl
  simp only [List.take_succ_cons, List.take_zero, List.drop_succ_cons, List.drop_zero]
  apply chainB_eq (D := [(2, none)]) rfl (by kernel_rfl)
  · intro ρ W ⟨p1, p2, p3⟩ hG hF K hK; (try simp [FactsD] at hF); have ⟨hc, hf, hz⟩ := bcell (Gr.tr (Gr.drew _) hG); go_simp; exact hK _ (gives_val)
  apply chainB_eq (D := [(1, none)]) rfl (by kernel_rfl)
  · intro ρ W ⟨p1, p2, p3⟩ hG hF K hK; (try simp [FactsD] at hF); have ⟨hc, hf, hz⟩ := bcell (Gr.tr (Gr.drew _) hG); go_simp; exact hK _ (gives_val)
  apply chainB_eq (D := [(2, none)]) rfl (by kernel_rfl)
  · intro ρ W ⟨p1, p2, p3⟩ hG hF K hK; (try simp [FactsD] at hF); have ⟨hc, hf, hz⟩ := bcell (Gr.tr (Gr.drew _) hG); go_simp; exact hK _ (gives_val)
  apply chainB_eq (D := [(11, some 0)]) rfl (by kernel_rfl)
  · intro ρ W ⟨p1, p2, p3⟩ hG hF K hK; (try simp [FactsD, exB] at hF); have ⟨hc, hf, hz⟩ := bcell (Gr.tr (Gr.drew _) hG); go_simp; exact hK _ (gives_val)
  apply chainB_eq (D := [(2, none)]) rfl (by kernel_rfl)
  · intro ρ W ⟨p1, p2, p3⟩ hG hF K hK; (try simp [FactsD] at hF); have ⟨hc, hf, hz⟩ := bcell (Gr.tr (Gr.drew _) hG); go_simp; exact hK _ (gives_val)
  apply chainB_eq (D := [(13, some 0)]) rfl (by kernel_rfl)
  · intro ρ W ⟨p1, p2, p3⟩ hG hF K hK; (try simp [FactsD, exB] at hF); have ⟨hc, hf, hz⟩ := bcell (Gr.tr (Gr.drew _) hG); go_simp; exact hK _ (gives_val)
  apply chainB_eq (D := [(10, some 4), (12, some 2), (14, some 0)]) rfl (by kernel_rfl)
  · intro ρ W ⟨p1, p2, p3⟩ hG hF K hK; (try simp [FactsD, exB] at hF); have ⟨hc, hf, hz⟩ := bcell (Gr.tr (Gr.drew _) hG); go_simp; exact hK _ (gives_call (rin_is hb.out _))
  apply chainB_eq (D := [(9, some 6), (15, some 0)]) rfl (by kernel_rfl)
  · intro ρ W ⟨p1, p2, p3⟩ hG hF K hK; (try simp [FactsD, exB] at hF); have ⟨hc, hf, hz⟩ := bcell (Gr.tr (Gr.drew _) hG); go_simp; exact hK _ (gives_call (ropen_is ho.out (TH.out _ ((Gr.drew _).tr hG))))
  apply chainB_eq (D := [(16, some 0)]) rfl (by kernel_rfl)
  · intro ρ W ⟨p1, p2, p3⟩ hG hF K hK; (try simp [FactsD, exB] at hF); have ⟨hc, hf, hz⟩ := bcell (Gr.tr (Gr.drew _) hG); go_simp; exact hK _ (gives_val)
  apply chainB_eq (D := [(8, some 0)]) rfl (by kernel_rfl)
  · intro ρ W ⟨p1, p2, p3⟩ hG hF K hK; (try simp [FactsD, exB] at hF); have ⟨hc, hf, hz⟩ := bcell (Gr.tr (Gr.drew _) hG); go_simp; exact hK _ (gives_val)
  apply chainB_eq (D := [(8, some 1)]) rfl (by kernel_rfl)
  · intro ρ W ⟨p1, p2, p3⟩ hG hF K hK; (try simp [FactsD, exB] at hF); have ⟨hc, hf, hz⟩ := bcell (Gr.tr (Gr.drew _) hG); go_simp; exact hK _ (gives_val)
  refine chainB_any (V := fun p v W' => NewB [.int .i64 0, .int .i64 0] 23 p v W' ∧ w.heap.size + 1 + 1 ≤ p.1) (D := []) rfl (by kernel_rfl) (fun p v A B h hg => ⟨NewB.lasts _ _ p v A B h.1 hg, h.2⟩) ?_ ?_
  · intro ρ W ⟨p1, p2, p3⟩ hG hF K hK; (try simp [FactsD] at hF); have ⟨hc, hf, hz⟩ := bcell (Gr.tr (Gr.drew _) hG); go_simp; exact hK _ (⟨⟨NewB.new _ _ _, by have := hG.size; simpa using this⟩, Gr.alloc _ _⟩)
  refine chainB_done ⟨?_, ?_⟩
  · intro vs bs W hG hV hdj
    obtain ⟨e11, e10, e9, -⟩ := hV
    simp only [Nat.reduceSub] at e9
    simp only [Nat.reduceSub] at e10
    simp only [Nat.reduceSub] at e11
    clear hdj
    simp only [lay, Act.put, List.getElem?_toArray, List.getElem?_cons_succ, List.getElem?_cons_zero, Option.bind_some, List.setIfInBounds_toArray, List.set_cons_succ, List.set_cons_zero]
    generalize vs 0 = v0
    generalize vs 1 = v1
    generalize vs 2 = v2
    generalize vs 3 = v3
    generalize vs 4 = v4
    generalize vs 5 = v5
    generalize vs 6 = v6
    generalize vs 7 = v7
    generalize vs 8 = v8
    generalize vs 9 = v9 at *
    generalize vs 10 = v10 at *
    generalize vs 11 = v11 at *
    subst e9
    subst e10
    obtain ⟨hc, hf, hz⟩ := bcell hG
    obtain ⟨⟨b11, rfl, hb8, hb8', hB8⟩, hb8n⟩ := e11
    have hl1 : w.heap.size + 1 < b11 := by omega
    have hl0 : w.heap.size < b11 := by omega
    have m0 := Nat.ne_of_lt hl0
    have m1 := Nat.ne_of_lt hl1
    have m2 := (Nat.ne_of_lt hl0).symm
    have m3 := (Nat.ne_of_lt hl1).symm
    obtain ⟨y0_, y1_, yf0, yf1, yl⟩ := hB8.two
    have k0 : w.heap.size < W.heap.size := by omega
    have k1 : w.heap.size + 1 < W.heap.size := by omega
    have HB8 := Lib.hid hB8
    have HGW := Lib.hid (show Gr w W from ((Gr.alloc _ _).tr (Gr.alloc _ _)).tr hG)
    have HG1 := Lib.hid hG
    clear hB8 hb8 hb8' hb8n
    go_wp2_with fail
    clear hG
    refine region2 9 ?_ ?_ ?_
    · kernel_rfl
    · kernel_rfl
    simp only [List.take_succ_cons, List.take_zero, List.drop_succ_cons, List.drop_zero]
    apply chain_eq (D := [(6, none)]) rfl (by kernel_rfl)
    · intro ρ W ⟨p1, p2, p3⟩ hG hF K hK; (try simp [FactsD] at hF); have ⟨hc, hf, hz⟩ := bcell (Gr.tr (Gr.drew _) hG); go_simp; exact hK _ (gives_val)
    apply chain_eq (D := [(23, some 0)]) rfl (by kernel_rfl)
    · intro ρ W ⟨p1, p2, p3⟩ hG hF K hK; (try simp [FactsD] at hF); have ⟨hc, hf, hz⟩ := bcell (Gr.tr (Gr.drew _) hG); go_simp; exact hK _ (gives_val)
    apply chain_eq (D := [(1, none)]) rfl (by kernel_rfl)
    · intro ρ W ⟨p1, p2, p3⟩ hG hF K hK; (try simp [FactsD] at hF); have ⟨hc, hf, hz⟩ := bcell (Gr.tr (Gr.drew _) hG); go_simp; exact hK _ (gives_val)
    apply chain_eq (D := [(24, some 1), (25, some 0)]) rfl (by kernel_rfl)
    · intro ρ W ⟨p1, p2, p3⟩ hG hF K hK; (try simp [FactsD] at hF); have ⟨hc, hf, hz⟩ := bcell (Gr.tr (Gr.drew _) hG); go_simp; exact hK _ (gives_val)
    apply chain_eq (D := [(6, none)]) rfl (by kernel_rfl)
    · intro ρ W ⟨p1, p2, p3⟩ hG hF K hK; (try simp [FactsD] at hF); have ⟨hc, hf, hz⟩ := bcell (Gr.tr (Gr.drew _) hG); go_simp; exact hK _ (gives_val)
    apply chain_eq (D := [(27, some 0)]) rfl (by kernel_rfl)
    · intro ρ W ⟨p1, p2, p3⟩ hG hF K hK; (try simp [FactsD] at hF); have ⟨hc, hf, hz⟩ := bcell (Gr.tr (Gr.drew _) hG); go_simp; exact hK _ (gives_val)
    apply chain_eq (D := [(1, none)]) rfl (by kernel_rfl)
    · intro ρ W ⟨p1, p2, p3⟩ hG hF K hK; (try simp [FactsD] at hF); have ⟨hc, hf, hz⟩ := bcell (Gr.tr (Gr.drew _) hG); go_simp; exact hK _ (gives_val)
    apply chain_eq (D := [(28, some 1), (29, some 0)]) rfl (by kernel_rfl)
    · intro ρ W ⟨p1, p2, p3⟩ hG hF K hK; (try simp [FactsD] at hF); have ⟨hc, hf, hz⟩ := bcell (Gr.tr (Gr.drew _) hG); go_simp; exact hK _ (gives_val)
    apply chain_eq (D := [(26, some 4), (30, some 0)]) rfl (by kernel_rfl)
    · intro ρ W ⟨p1, p2, p3⟩ hG hF K hK; (try simp [FactsD] at hF); have ⟨hc, hf, hz⟩ := bcell (Gr.tr (Gr.drew _) hG); go_simp; exact hK _ (gives_val)
    refine chain_done ?_
    intro vs W hG hV
    obtain ⟨e8, -⟩ := hV
    simp only [Nat.reduceSub] at e8
    simp only [lay, Act.put, List.getElem?_toArray, List.getElem?_cons_succ, List.getElem?_cons_zero, Option.bind_some, List.setIfInBounds_toArray, List.set_cons_succ, List.set_cons_zero]
    generalize vs 0 = v0
    generalize vs 1 = v1
    generalize vs 2 = v2
    generalize vs 3 = v3
    generalize vs 4 = v4
    generalize vs 5 = v5
    generalize vs 6 = v6
    generalize vs 7 = v7
    generalize vs 8 = v8 at *
    subst e8
    obtain ⟨hc, hf, hz⟩ := bcell hG
    go_wp2
    exact bodyPost_ret (v := .tuple #[.agg #[.int .i64 (x / z), .int .i64 (y / z)], .int .i64 0]) (by simp [results, Try.results20, go_sem, *]) rfl ⟨rfl, (((bgr (((show Below w.heap.size w _ from HGW.out).setCell (by first | (simp; done) | (simp; omega) | omega) _).setCell (by first | (simp; done) | (simp; omega) | omega) _) (by first | (simp; done) | (simp; omega) | omega) hG).setCell (by first | (simp; done) | (simp; omega) | omega) _).setCell (by first | (simp; done) | (simp; omega) | omega) _)⟩
  · intro vs bs W hG hV hdj
    obtain ⟨e11, -, e9, e8, -⟩ := hV
    simp only [Nat.reduceSub, Nat.reduceEqDiff, if_false] at e8
    simp only [Nat.reduceSub, Nat.reduceEqDiff, if_false] at e9
    simp only [Nat.reduceSub, Nat.reduceEqDiff, if_false] at e11
    clear hdj
    refine wpOp_two rfl rfl ?_
    simp only [layL, Nat.reduceEqDiff, if_false, if_true, Act.put, List.getElem?_toArray, List.getElem?_cons_succ, List.getElem?_cons_zero, Option.bind_some, List.setIfInBounds_toArray, List.set_cons_succ, List.set_cons_zero, List.drop_succ_cons, List.drop_zero]
    generalize vs 0 = v0
    generalize vs 1 = v1
    generalize vs 2 = v2
    generalize vs 3 = v3
    generalize vs 4 = v4
    generalize vs 5 = v5
    generalize vs 6 = v6
    generalize vs 7 = v7
    generalize vs 8 = v8 at *
    generalize vs 9 = v9 at *
    generalize vs 11 = v11 at *
    subst e8
    subst e9
    obtain ⟨hc, hf, hz⟩ := bcell hG
    obtain ⟨⟨b11, rfl, hb8, hb8', hB8⟩, hb8n⟩ := e11
    have hl1 : w.heap.size + 1 < b11 := by omega
    have hl0 : w.heap.size < b11 := by omega
    have m0 := Nat.ne_of_lt hl0
    have m1 := Nat.ne_of_lt hl1
    have m2 := (Nat.ne_of_lt hl0).symm
    have m3 := (Nat.ne_of_lt hl1).symm
    obtain ⟨y0_, y1_, yf0, yf1, yl⟩ := hB8.two
    have k0 : w.heap.size < W.heap.size := by omega
    have k1 : w.heap.size + 1 < W.heap.size := by omega
    have HB8 := Lib.hid hB8
    have HGW := Lib.hid (show Gr w W from ((Gr.alloc _ _).tr (Gr.alloc _ _)).tr hG)
    have HG1 := Lib.hid hG
    clear hB8 hb8 hb8' hb8n
    go_wp2_with fail
    clear hG
    refine region2 9 ?_ ?_ ?_
    · kernel_rfl
    · kernel_rfl
    simp only [List.take_succ_cons, List.take_zero, List.drop_succ_cons, List.drop_zero]
    apply chain_eq (D := [(6, none)]) rfl (by kernel_rfl)
    · intro ρ W ⟨p1, p2, p3⟩ hG hF K hK; (try simp [FactsD] at hF); have ⟨hc, hf, hz⟩ := bcell (Gr.tr (Gr.drew _) hG); go_simp; exact hK _ (gives_val)
    apply chain_eq (D := [(23, some 0)]) rfl (by kernel_rfl)
    · intro ρ W ⟨p1, p2, p3⟩ hG hF K hK; (try simp [FactsD] at hF); have ⟨hc, hf, hz⟩ := bcell (Gr.tr (Gr.drew _) hG); go_simp; exact hK _ (gives_val)
    apply chain_eq (D := [(1, none)]) rfl (by kernel_rfl)
    · intro ρ W ⟨p1, p2, p3⟩ hG hF K hK; (try simp [FactsD] at hF); have ⟨hc, hf, hz⟩ := bcell (Gr.tr (Gr.drew _) hG); go_simp; exact hK _ (gives_val)
    apply chain_eq (D := [(24, some 1), (25, some 0)]) rfl (by kernel_rfl)
    · intro ρ W ⟨p1, p2, p3⟩ hG hF K hK; (try simp [FactsD] at hF); have ⟨hc, hf, hz⟩ := bcell (Gr.tr (Gr.drew _) hG); go_simp; exact hK _ (gives_val)
    apply chain_eq (D := [(6, none)]) rfl (by kernel_rfl)
    · intro ρ W ⟨p1, p2, p3⟩ hG hF K hK; (try simp [FactsD] at hF); have ⟨hc, hf, hz⟩ := bcell (Gr.tr (Gr.drew _) hG); go_simp; exact hK _ (gives_val)
    apply chain_eq (D := [(27, some 0)]) rfl (by kernel_rfl)
    · intro ρ W ⟨p1, p2, p3⟩ hG hF K hK; (try simp [FactsD] at hF); have ⟨hc, hf, hz⟩ := bcell (Gr.tr (Gr.drew _) hG); go_simp; exact hK _ (gives_val)
    apply chain_eq (D := [(1, none)]) rfl (by kernel_rfl)
    · intro ρ W ⟨p1, p2, p3⟩ hG hF K hK; (try simp [FactsD] at hF); have ⟨hc, hf, hz⟩ := bcell (Gr.tr (Gr.drew _) hG); go_simp; exact hK _ (gives_val)
    apply chain_eq (D := [(28, some 1), (29, some 0)]) rfl (by kernel_rfl)
    · intro ρ W ⟨p1, p2, p3⟩ hG hF K hK; (try simp [FactsD] at hF); have ⟨hc, hf, hz⟩ := bcell (Gr.tr (Gr.drew _) hG); go_simp; exact hK _ (gives_val)
    apply chain_eq (D := [(26, some 4), (30, some 0)]) rfl (by kernel_rfl)
    · intro ρ W ⟨p1, p2, p3⟩ hG hF K hK; (try simp [FactsD] at hF); have ⟨hc, hf, hz⟩ := bcell (Gr.tr (Gr.drew _) hG); go_simp; exact hK _ (gives_val)
    refine chain_done ?_
    intro vs W hG hV
    obtain ⟨e8, -⟩ := hV
    simp only [Nat.reduceSub] at e8
    simp only [lay, Act.put, List.getElem?_toArray, List.getElem?_cons_succ, List.getElem?_cons_zero, Option.bind_some, List.setIfInBounds_toArray, List.set_cons_succ, List.set_cons_zero]
    generalize vs 0 = v0
    generalize vs 1 = v1
    generalize vs 2 = v2
    generalize vs 3 = v3
    generalize vs 4 = v4
    generalize vs 5 = v5
    generalize vs 6 = v6
    generalize vs 7 = v7
    generalize vs 8 = v8 at *
    subst e8
    obtain ⟨hc, hf, hz⟩ := bcell hG
    go_wp2
    exact bodyPost_ret (v := .tuple #[.agg #[.int .i64 (x / z), .int .i64 (y / z)], .int .i64 0]) (by simp [results, Try.results20, go_sem, *]) rfl ⟨rfl, (((bgr (((show Below w.heap.size w _ from HGW.out).setCell (by first | (simp; done) | (simp; omega) | omega) _).setCell (by first | (simp; done) | (simp; omega) | omega) _) (by first | (simp; done) | (simp; omega) | omega) hG).setCell (by first | (simp; done) | (simp; omega) | omega) _).setCell (by first | (simp; done) | (simp; omega) | omega) _)⟩
end Go.Proofs.Ytofdoadpaedogaa
