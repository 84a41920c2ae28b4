import Derived.Test.YtofdoadpaedogaaT24
import Derived.Test.YtofdoadpaedogaaG2
namespace Go.Proofs.Ytofdoadpaedogaa
open Go.RowKit

set_option maxHeartbeats 1600000 in
theorem stands1_range (fl fh bl bh ti ne fa : Int) (v sv : Value) (plo phi : Int) (z : Int) (p : Nat) (w : World) (hin : (decide (ne ≤ z) && decide (z ≤ fa)) = false) (hp : w.cell? ⟨p, 0, none⟩ = some (.int .i64 z)) (hpl : p < w.heap.size) :
    Calls Try.prog 50 #[.agg #[.int .i64 fl, .int .i64 fh, .int .i64 bl, .int .i64 bh, .int .i64 ti, .int .i64 ne, .int .i64 fa, v, sv, .int .i64 plo, .int .i64 phi], .pointer (some ⟨p, 0, none⟩)] w fun e w' => e = .panicked [{ v := .iface 28 (.int .i64 2), recovered := false }] ∧ Below w.heap.size w w' := by
  have hi : ∀ W : World, Calls Try.prog 52 #[.int .i64 z, .agg #[.int .i64 ne, .int .i64 fa]] W fun e w' => e = .returned (.bool false) ∧ Below W.heap.size W w' := fun W => by
    have := inside_any z ne fa W
    rwa [hin] at this
  have HI := Lib.hid hi
  clear hi hin
  have hal := @cal
  have hp1 : p < w.heap.size + 1 := by omega
  go_enter Try.func50, Try.ntmps50
  go_wp2
  refine region2 10 ?_ ?_ ?_
  · kernel_rfl
  · kernel_rfl
  simp only [List.take_succ_cons, List.take_zero, List.drop_succ_cons, List.drop_zero]
  apply chain_eq (D := [(1, none)]) rfl (by kernel_rfl)
  · intro ρ W ⟨p1, p2, p3⟩ hG hF K hK; (try simp [FactsD] at hF); have ⟨hc, hf, hz⟩ := bcell (Gr.tr (Gr.drew _) hG); go_simp; exact hK _ (gives_val)
  apply chain_eq (D := [(2, none)]) rfl (by kernel_rfl)
  · intro ρ W ⟨p1, p2, p3⟩ hG hF K hK; (try simp [FactsD] at hF); have ⟨hc, hf, hz⟩ := bcell (Gr.tr (Gr.drew _) hG); go_simp; exact hK _ (gives_val)
  apply chain_eq (D := [(6, some 0)]) rfl (by kernel_rfl)
  · intro ρ W ⟨p1, p2, p3⟩ hG hF K hK; (try simp [FactsD] at hF); have ⟨hc, hf, hz⟩ := bcell (Gr.tr (Gr.drew _) hG); go_simp; exact hK _ (gives_val)
  apply chain_eq (D := [(7, some 0)]) rfl (by kernel_rfl)
  · intro ρ W ⟨p1, p2, p3⟩ hG hF K hK; (try simp [FactsD] at hF); have ⟨hc, hf, hz⟩ := bcell (Gr.tr (Gr.drew _) hG); go_simp; exact hK _ (gives_val)
  apply chain_eq (D := [(2, none)]) rfl (by kernel_rfl)
  · intro ρ W ⟨p1, p2, p3⟩ hG hF K hK; (try simp [FactsD] at hF); have ⟨hc, hf, hz⟩ := bcell (Gr.tr (Gr.drew _) hG); go_simp; exact hK _ (gives_val)
  apply chain_eq (D := [(9, some 0)]) rfl (by kernel_rfl)
  · intro ρ W ⟨p1, p2, p3⟩ hG hF K hK; (try simp [FactsD] at hF); have ⟨hc, hf, hz⟩ := bcell (Gr.tr (Gr.drew _) hG); go_simp; exact hK _ (gives_val)
  apply chain_eq (D := [(10, some 0)]) rfl (by kernel_rfl)
  · intro ρ W ⟨p1, p2, p3⟩ hG hF K hK; (try simp [FactsD] at hF); have ⟨hc, hf, hz⟩ := bcell (Gr.tr (Gr.drew _) hG); go_simp; exact hK _ (gives_val)
  apply chain_eq (D := [(8, some 3), (11, some 0)]) rfl (by kernel_rfl)
  · intro ρ W ⟨p1, p2, p3⟩ hG hF K hK; (try simp [FactsD] at hF); have ⟨hc, hf, hz⟩ := bcell (Gr.tr (Gr.drew _) hG); go_simp; exact hK _ (gives_call (span_any _ _ _))
  apply chain_eq (D := [(5, some 7), (12, some 0)]) rfl (by kernel_rfl)
  · intro ρ W ⟨p1, p2, p3⟩ hG hF K hK; (try simp [FactsD] at hF); have ⟨hc, hf, hz⟩ := bcell (Gr.tr (Gr.drew _) hG); go_simp; exact hK _ (gives_call (HI.out _))
  refine chain_any (V := fun _ _ => False) (D := [(13, some 0)]) rfl (by kernel_rfl) (fun _ _ _ h _ => h) ?_ ?_
  · intro ρ W ⟨p1, p2, p3⟩ hG hF K hK; (try simp [FactsD] at hF); have ⟨hc, hf, hz⟩ := bcell (Gr.tr (Gr.drew _) hG); go_simp; exact hK _ (gives_panic (require_no _ _) (fun W' hg a' ha' => ⟨ha', rfl, (bgr (((Below.refl _ _).alloc (by first | (simp; done) | (simp; omega) | omega) _).alloc (by first | (simp; done) | (simp; omega) | omega) _) (by first | (simp; done) | (simp; omega) | omega) (Gr.tr (Gr.tr (Gr.drew _) hG) hg))⟩))
  refine chain_done ?_
  intro vs W hG hV
  exact (hV.1 : False).elim
set_option maxHeartbeats 1600000 in
theorem stands1_none (fl fh bl bh ti ne fa : Int) (v sv : Value) (plo phi : Int) (z : Int) (p : Nat) (w : World) (hin : (decide (ne ≤ z) && decide (z ≤ fa)) = true) (hpp : phi < plo) (hp : w.cell? ⟨p, 0, none⟩ = some (.int .i64 z)) (hpl : p < w.heap.size) :
    Calls Try.prog 50 #[.agg #[.int .i64 fl, .int .i64 fh, .int .i64 bl, .int .i64 bh, .int .i64 ti, .int .i64 ne, .int .i64 fa, v, sv, .int .i64 plo, .int .i64 phi], .pointer (some ⟨p, 0, none⟩)] w fun e w' => e = .panicked [{ v := .iface 28 (.int .i64 4), recovered := false }] ∧ Below w.heap.size w w' := by
  have hi : ∀ W : World, Calls Try.prog 52 #[.int .i64 z, .agg #[.int .i64 ne, .int .i64 fa]] W fun e w' => e = .returned (.bool true) ∧ Below W.heap.size W w' := fun W => by
    have := inside_any z ne fa W
    rwa [hin] at this
  have HI := Lib.hid hi
  clear hi hin
  have hal := @cal
  have hp1 : p < w.heap.size + 1 := by omega
  go_enter Try.func50, Try.ntmps50
  go_wp2
  refine region2 10 ?_ ?_ ?_
  · kernel_rfl
  · kernel_rfl
  simp only [List.take_succ_cons, List.take_zero, List.drop_succ_cons, List.drop_zero]
  apply chain_eq (D := [(1, none)]) rfl (by kernel_rfl)
  · intro ρ W ⟨p1, p2, p3⟩ hG hF K hK; (try simp [FactsD] at hF); have ⟨hc, hf, hz⟩ := bcell (Gr.tr (Gr.drew _) hG); go_simp; exact hK _ (gives_val)
  apply chain_eq (D := [(2, none)]) rfl (by kernel_rfl)
  · intro ρ W ⟨p1, p2, p3⟩ hG hF K hK; (try simp [FactsD] at hF); have ⟨hc, hf, hz⟩ := bcell (Gr.tr (Gr.drew _) hG); go_simp; exact hK _ (gives_val)
  apply chain_eq (D := [(6, some 0)]) rfl (by kernel_rfl)
  · intro ρ W ⟨p1, p2, p3⟩ hG hF K hK; (try simp [FactsD] at hF); have ⟨hc, hf, hz⟩ := bcell (Gr.tr (Gr.drew _) hG); go_simp; exact hK _ (gives_val)
  apply chain_eq (D := [(7, some 0)]) rfl (by kernel_rfl)
  · intro ρ W ⟨p1, p2, p3⟩ hG hF K hK; (try simp [FactsD] at hF); have ⟨hc, hf, hz⟩ := bcell (Gr.tr (Gr.drew _) hG); go_simp; exact hK _ (gives_val)
  apply chain_eq (D := [(2, none)]) rfl (by kernel_rfl)
  · intro ρ W ⟨p1, p2, p3⟩ hG hF K hK; (try simp [FactsD] at hF); have ⟨hc, hf, hz⟩ := bcell (Gr.tr (Gr.drew _) hG); go_simp; exact hK _ (gives_val)
  apply chain_eq (D := [(9, some 0)]) rfl (by kernel_rfl)
  · intro ρ W ⟨p1, p2, p3⟩ hG hF K hK; (try simp [FactsD] at hF); have ⟨hc, hf, hz⟩ := bcell (Gr.tr (Gr.drew _) hG); go_simp; exact hK _ (gives_val)
  apply chain_eq (D := [(10, some 0)]) rfl (by kernel_rfl)
  · intro ρ W ⟨p1, p2, p3⟩ hG hF K hK; (try simp [FactsD] at hF); have ⟨hc, hf, hz⟩ := bcell (Gr.tr (Gr.drew _) hG); go_simp; exact hK _ (gives_val)
  apply chain_eq (D := [(8, some 3), (11, some 0)]) rfl (by kernel_rfl)
  · intro ρ W ⟨p1, p2, p3⟩ hG hF K hK; (try simp [FactsD] at hF); have ⟨hc, hf, hz⟩ := bcell (Gr.tr (Gr.drew _) hG); go_simp; exact hK _ (gives_call (span_any _ _ _))
  apply chain_eq (D := [(5, some 7), (12, some 0)]) rfl (by kernel_rfl)
  · intro ρ W ⟨p1, p2, p3⟩ hG hF K hK; (try simp [FactsD] at hF); have ⟨hc, hf, hz⟩ := bcell (Gr.tr (Gr.drew _) hG); go_simp; exact hK _ (gives_call (HI.out _))
  apply chain_eq (D := [(13, some 0)]) rfl (by kernel_rfl)
  · intro ρ W ⟨p1, p2, p3⟩ hG hF K hK; (try simp [FactsD] at hF); have ⟨hc, hf, hz⟩ := bcell (Gr.tr (Gr.drew _) hG); go_simp; exact hK _ (gives_call (require_ok _ _))
  refine chain_done ?_
  intro vs W hG hV
  obtain ⟨e9, -⟩ := hV
  simp only [Nat.reduceSub] at e9
  simp only [lay, Act.put, List.getElem?_toArray, List.getElem?_cons_succ, List.getElem?_cons_zero, Option.bind_some, List.setIfInBounds_toArray, List.set_cons_succ, List.set_cons_zero]
  generalize vs 0 = v0
  generalize vs 1 = v1
  generalize vs 2 = v2
  generalize vs 3 = v3
  generalize vs 4 = v4
  generalize vs 5 = v5
  generalize vs 6 = v6
  generalize vs 7 = v7
  generalize vs 8 = v8
  generalize vs 9 = v9 at *
  subst e9
  obtain ⟨hc, hf, hz⟩ := bcell hG
  have HL0 := Lib.hid (((Box.fresh w [.int .i64 fl, .int .i64 fh, .int .i64 bl, .int .i64 bh, .int .i64 ti, .int .i64 ne, .int .i64 fa, v, sv, .int .i64 plo, .int .i64 phi] 70).grow (Gr.alloc _ (.cells #[.int .i64 0, .int .i64 0] 23))).grow hG)
  have HR0 := Lib.hid (show Box W (w.heap.size + 1) [.int .i64 0, .int .i64 0] 23 from (by simpa using (Box.fresh (w.alloc (.cells #[.int .i64 fl, .int .i64 fh, .int .i64 bl, .int .i64 bh, .int .i64 ti, .int .i64 ne, .int .i64 fa, v, sv, .int .i64 plo, .int .i64 phi] 70)) [.int .i64 0, .int .i64 0] 23).grow hG))
  have HG0 := Lib.hid (((Gr.alloc w (.cells #[.int .i64 fl, .int .i64 fh, .int .i64 bl, .int .i64 bh, .int .i64 ti, .int .i64 ne, .int .i64 fa, v, sv, .int .i64 plo, .int .i64 phi] 70)).tr (Gr.alloc _ (.cells #[.int .i64 0, .int .i64 0] 23))).tr hG)
  have hp2 : W.cell? ⟨p, 0, none⟩ = some (.int .i64 z) := ((bcell HG0.out).1 _ _ hpl).trans hp
  have hp3 : p < W.heap.size := Nat.lt_of_lt_of_le hpl HG0.out.size
  clear hc hf hz hG hp hp1
  obtain ⟨l0, l1, l2, l3, l4, l5, l6, l7, l8, l9, l10⟩ := HL0.out.eleven
  have s1 := HL0.out.lt
  have s2 := HR0.out.lt
  go_wp2_with (go_at_call 48; refine (truths_no _ _ _ _ _ _ _ _ _ _ _ _ hpp).mono ?_; rintro e w2 ⟨rfl, hb2⟩)
  exact ⟨rfl, rfl, HG0.out.tr hb2⟩
set_option maxHeartbeats 1600000 in
theorem stands1_ok (fl fh bl bh ti ne fa : Int) (v sv : Value) (plo phi : Int) (z : Int) (p : Nat) (w : World) (hin : (decide (ne ≤ z) && decide (z ≤ fa)) = true) (hpp : plo ≤ phi) (a0 : 0 ≤ plo) (a1 : phi ≤ 4398046511104) (hz0 : 0 < z) (hp : w.cell? ⟨p, 0, none⟩ = some (.int .i64 z)) (hpl : p < w.heap.size) :
    Calls Try.prog 50 #[.agg #[.int .i64 fl, .int .i64 fh, .int .i64 bl, .int .i64 bh, .int .i64 ti, .int .i64 ne, .int .i64 fa, v, sv, .int .i64 plo, .int .i64 phi], .pointer (some ⟨p, 0, none⟩)] w fun e w' => e = .returned (.agg #[.int .i64 (plo / z), .int .i64 (phi / z)]) ∧ Below w.heap.size w w' := by
  have hi : ∀ W : World, Calls Try.prog 52 #[.int .i64 z, .agg #[.int .i64 ne, .int .i64 fa]] W fun e w' => e = .returned (.bool true) ∧ Below W.heap.size W w' := fun W => by
    have := inside_any z ne fa W
    rwa [hin] at this
  have HI := Lib.hid hi
  clear hi hin
  have hal := @cal
  have hp1 : p < w.heap.size + 1 := by omega
  obtain ⟨q0, q1⟩ := quo_le (b := z) a0 (show plo ≤ 4398046511104 by omega) (by omega)
  obtain ⟨q2, q3⟩ := quo_le (b := z) (show 0 ≤ phi by omega) a1 (by omega)
  have e1 : IntKind.i64.wrap (plo.tdiv z) = plo / z := by rw [Int.tdiv_eq_ediv_of_nonneg a0]; exact wraps_i64 _ q0 (by omega)
  have e2 : IntKind.i64.wrap (phi.tdiv z) = phi / z := by rw [Int.tdiv_eq_ediv_of_nonneg (by omega)]; exact wraps_i64 _ q2 (by omega)
  have hzn : ¬ z = 0 := by omega
  go_enter Try.func50, Try.ntmps50
  go_wp2
  refine region2 10 ?_ ?_ ?_
  · kernel_rfl
  · kernel_rfl
  simp only [List.take_succ_cons, List.take_zero, List.drop_succ_cons, List.drop_zero]
  apply chain_eq (D := [(1, none)]) rfl (by kernel_rfl)
  · intro ρ W ⟨p1, p2, p3⟩ hG hF K hK; (try simp [FactsD] at hF); have ⟨hc, hf, hz⟩ := bcell (Gr.tr (Gr.drew _) hG); go_simp; exact hK _ (gives_val)
  apply chain_eq (D := [(2, none)]) rfl (by kernel_rfl)
  · intro ρ W ⟨p1, p2, p3⟩ hG hF K hK; (try simp [FactsD] at hF); have ⟨hc, hf, hz⟩ := bcell (Gr.tr (Gr.drew _) hG); go_simp; exact hK _ (gives_val)
  apply chain_eq (D := [(6, some 0)]) rfl (by kernel_rfl)
  · intro ρ W ⟨p1, p2, p3⟩ hG hF K hK; (try simp [FactsD] at hF); have ⟨hc, hf, hz⟩ := bcell (Gr.tr (Gr.drew _) hG); go_simp; exact hK _ (gives_val)
  apply chain_eq (D := [(7, some 0)]) rfl (by kernel_rfl)
  · intro ρ W ⟨p1, p2, p3⟩ hG hF K hK; (try simp [FactsD] at hF); have ⟨hc, hf, hz⟩ := bcell (Gr.tr (Gr.drew _) hG); go_simp; exact hK _ (gives_val)
  apply chain_eq (D := [(2, none)]) rfl (by kernel_rfl)
  · intro ρ W ⟨p1, p2, p3⟩ hG hF K hK; (try simp [FactsD] at hF); have ⟨hc, hf, hz⟩ := bcell (Gr.tr (Gr.drew _) hG); go_simp; exact hK _ (gives_val)
  apply chain_eq (D := [(9, some 0)]) rfl (by kernel_rfl)
  · intro ρ W ⟨p1, p2, p3⟩ hG hF K hK; (try simp [FactsD] at hF); have ⟨hc, hf, hz⟩ := bcell (Gr.tr (Gr.drew _) hG); go_simp; exact hK _ (gives_val)
  apply chain_eq (D := [(10, some 0)]) rfl (by kernel_rfl)
  · intro ρ W ⟨p1, p2, p3⟩ hG hF K hK; (try simp [FactsD] at hF); have ⟨hc, hf, hz⟩ := bcell (Gr.tr (Gr.drew _) hG); go_simp; exact hK _ (gives_val)
  apply chain_eq (D := [(8, some 3), (11, some 0)]) rfl (by kernel_rfl)
  · intro ρ W ⟨p1, p2, p3⟩ hG hF K hK; (try simp [FactsD] at hF); have ⟨hc, hf, hz⟩ := bcell (Gr.tr (Gr.drew _) hG); go_simp; exact hK _ (gives_call (span_any _ _ _))
  apply chain_eq (D := [(5, some 7), (12, some 0)]) rfl (by kernel_rfl)
  · intro ρ W ⟨p1, p2, p3⟩ hG hF K hK; (try simp [FactsD] at hF); have ⟨hc, hf, hz⟩ := bcell (Gr.tr (Gr.drew _) hG); go_simp; exact hK _ (gives_call (HI.out _))
  apply chain_eq (D := [(13, some 0)]) rfl (by kernel_rfl)
  · intro ρ W ⟨p1, p2, p3⟩ hG hF K hK; (try simp [FactsD] at hF); have ⟨hc, hf, hz⟩ := bcell (Gr.tr (Gr.drew _) hG); go_simp; exact hK _ (gives_call (require_ok _ _))
  refine chain_done ?_
  intro vs W hG hV
  obtain ⟨e9, -⟩ := hV
  simp only [Nat.reduceSub] at e9
  simp only [lay, Act.put, List.getElem?_toArray, List.getElem?_cons_succ, List.getElem?_cons_zero, Option.bind_some, List.setIfInBounds_toArray, List.set_cons_succ, List.set_cons_zero]
  generalize vs 0 = v0
  generalize vs 1 = v1
  generalize vs 2 = v2
  generalize vs 3 = v3
  generalize vs 4 = v4
  generalize vs 5 = v5
  generalize vs 6 = v6
  generalize vs 7 = v7
  generalize vs 8 = v8
  generalize vs 9 = v9 at *
  subst e9
  obtain ⟨hc, hf, hz⟩ := bcell hG
  have HL0 := Lib.hid (((Box.fresh w [.int .i64 fl, .int .i64 fh, .int .i64 bl, .int .i64 bh, .int .i64 ti, .int .i64 ne, .int .i64 fa, v, sv, .int .i64 plo, .int .i64 phi] 70).grow (Gr.alloc _ (.cells #[.int .i64 0, .int .i64 0] 23))).grow hG)
  have HR0 := Lib.hid (show Box W (w.heap.size + 1) [.int .i64 0, .int .i64 0] 23 from (by simpa using (Box.fresh (w.alloc (.cells #[.int .i64 fl, .int .i64 fh, .int .i64 bl, .int .i64 bh, .int .i64 ti, .int .i64 ne, .int .i64 fa, v, sv, .int .i64 plo, .int .i64 phi] 70)) [.int .i64 0, .int .i64 0] 23).grow hG))
  have HG0 := Lib.hid (((Gr.alloc w (.cells #[.int .i64 fl, .int .i64 fh, .int .i64 bl, .int .i64 bh, .int .i64 ti, .int .i64 ne, .int .i64 fa, v, sv, .int .i64 plo, .int .i64 phi] 70)).tr (Gr.alloc _ (.cells #[.int .i64 0, .int .i64 0] 23))).tr hG)
  have hp2 : W.cell? ⟨p, 0, none⟩ = some (.int .i64 z) := ((bcell HG0.out).1 _ _ hpl).trans hp
  have hp3 : p < W.heap.size := Nat.lt_of_lt_of_le hpl HG0.out.size
  clear hc hf hz hG hp hp1
  obtain ⟨l0, l1, l2, l3, l4, l5, l6, l7, l8, l9, l10⟩ := HL0.out.eleven
  have s1 := HL0.out.lt
  have s2 := HR0.out.lt
  go_wp2_with (go_at_call 48; refine (truths_ok _ _ _ _ _ _ _ _ _ _ _ _ hpp).mono ?_; rintro e w2 ⟨rfl, hb2⟩; clear l0 l1 l2 l3 l4 l5 l6 l7 l8 l9 l10; have HR2 := Lib.hid (HR0.out.grow hb2); have HG2 := Lib.hid (HG0.out.tr hb2); have hp4 := ((bcell hb2).1 _ _ hp3).trans hp2; have hp5 := Nat.lt_of_lt_of_le hp3 hb2.size; clear hp2 hp3 hb2; have s3 := HR2.out.lt)
  have HP3 := Lib.hid (Box.fresh w2 [.int .i64 plo, .int .i64 phi] 23)
  refine region2 9 ?_ ?_ ?_
  · kernel_rfl
  · kernel_rfl
  simp only [List.take_succ_cons, List.take_zero, List.drop_succ_cons, List.drop_zero]
  apply chain_eq (D := [(4, none)]) rfl (by kernel_rfl)
  · intro ρ W ⟨p1, p2, p3⟩ hG hF K hK; (try simp [FactsD] at hF); have ⟨hc, hf, hz⟩ := bcell (Gr.tr (Gr.drew _) hG); go_simp; exact hK _ (gives_val)
  apply chain_eq (D := [(17, some 0)]) rfl (by kernel_rfl)
  · intro ρ W ⟨p1, p2, p3⟩ hG hF K hK; (try simp [FactsD] at hF); have ⟨hc, hf, hz⟩ := bcell (Gr.tr (Gr.drew _) hG); go_simp; exact hK _ (gives_val)
  apply chain_eq (D := [(1, none)]) rfl (by kernel_rfl)
  · intro ρ W ⟨p1, p2, p3⟩ hG hF K hK; (try simp [FactsD] at hF); have ⟨hc, hf, hz⟩ := bcell (Gr.tr (Gr.drew _) hG); go_simp; exact hK _ (gives_val)
  apply chain_eq (D := [(18, some 1), (19, some 0)]) rfl (by kernel_rfl)
  · intro ρ W ⟨p1, p2, p3⟩ hG hF K hK; (try simp [FactsD] at hF); have ⟨hc, hf, hz⟩ := bcell (Gr.tr (Gr.drew _) hG); go_simp; exact hK _ (gives_val)
  apply chain_eq (D := [(4, none)]) rfl (by kernel_rfl)
  · intro ρ W ⟨p1, p2, p3⟩ hG hF K hK; (try simp [FactsD] at hF); have ⟨hc, hf, hz⟩ := bcell (Gr.tr (Gr.drew _) hG); go_simp; exact hK _ (gives_val)
  apply chain_eq (D := [(21, some 0)]) rfl (by kernel_rfl)
  · intro ρ W ⟨p1, p2, p3⟩ hG hF K hK; (try simp [FactsD] at hF); have ⟨hc, hf, hz⟩ := bcell (Gr.tr (Gr.drew _) hG); go_simp; exact hK _ (gives_val)
  apply chain_eq (D := [(1, none)]) rfl (by kernel_rfl)
  · intro ρ W ⟨p1, p2, p3⟩ hG hF K hK; (try simp [FactsD] at hF); have ⟨hc, hf, hz⟩ := bcell (Gr.tr (Gr.drew _) hG); go_simp; exact hK _ (gives_val)
  apply chain_eq (D := [(22, some 1), (23, some 0)]) rfl (by kernel_rfl)
  · intro ρ W ⟨p1, p2, p3⟩ hG hF K hK; (try simp [FactsD] at hF); have ⟨hc, hf, hz⟩ := bcell (Gr.tr (Gr.drew _) hG); go_simp; exact hK _ (gives_val)
  apply chain_eq (D := [(20, some 4), (24, some 0)]) rfl (by kernel_rfl)
  · intro ρ W ⟨p1, p2, p3⟩ hG hF K hK; (try simp [FactsD] at hF); have ⟨hc, hf, hz⟩ := bcell (Gr.tr (Gr.drew _) hG); go_simp; exact hK _ (gives_call (span_any _ _ _))
  refine chain_done ?_
  intro vs W hG hV
  obtain ⟨e8, -⟩ := hV
  simp only [Nat.reduceSub] at e8
  simp only [lay, Act.put, List.getElem?_toArray, List.getElem?_cons_succ, List.getElem?_cons_zero, Option.bind_some, List.setIfInBounds_toArray, List.set_cons_succ, List.set_cons_zero]
  generalize vs 0 = v0
  generalize vs 1 = v1
  generalize vs 2 = v2
  generalize vs 3 = v3
  generalize vs 4 = v4
  generalize vs 5 = v5
  generalize vs 6 = v6
  generalize vs 7 = v7
  generalize vs 8 = v8 at *
  subst e8
  obtain ⟨hc, hf, hz⟩ := bcell hG
  obtain ⟨z0, z1, zf0, zf1, s7⟩ := ((HR2.out.grow (Gr.alloc _ (.cells #[.int .i64 plo, .int .i64 phi] 23))).grow hG).two
  go_wp2
  exact bodyPost_ret (v := .agg #[.int .i64 (plo / z), .int .i64 (phi / z)]) (by simp [results, Try.results50, go_sem, z0, z1]) rfl ⟨rfl, (((show Below w.heap.size w _ from (HG2.out.tr (Gr.alloc _ (.cells #[.int .i64 plo, .int .i64 phi] 23))).tr hG).setCell (by first | (simp; done) | (simp; omega) | omega) _).setCell (by first | (simp; done) | (simp; omega) | omega) _)⟩
end Go.Proofs.Ytofdoadpaedogaa
