import Derived.Test.YtjlaoiimbhlafaaZA
namespace Go.Proofs.Ytjlaoiimbhlafaa.Pq
open Go.RowKit

theorem fld23_0 (x y : Value) (w : World) : (Instr.field 24 (.agg #[x, y]) 0).run Try.prog w = .ok x w := by kernel_rfl
theorem fld23_1 (x y : Value) (w : World) : (Instr.field 24 (.agg #[x, y]) 1).run Try.prog w = .ok y w := by kernel_rfl
theorem fld74_1 (a b c d : Value) (w : World) : (Instr.field 127 (.agg #[a, b, c, d]) 1).run Try.prog w = .ok (.agg #[b, c]) w := by kernel_rfl
set_option maxHeartbeats 400000 in
theorem tooFar_mark (m : Int) (lo hi plo phi : Int) (sl : Bool) (w : World) (b : -10000 ≤ (ovl (lo, hi) (0, 2000)).1 ∧ (ovl (lo, hi) (0, 2000)).1 ≤ 10000 ∧ -10000 ≤ (ovl (lo, hi) (0, 2000)).2 ∧ (ovl (lo, hi) (0, 2000)).2 ≤ 10000) (h4 : 0 ≤ m) (h5 : m ≤ 1073741824) :
    Calls Try.prog 136 #[.agg #[.iface 181 (.int .i64 m), .int .i64 lo, .int .i64 hi, .bool sl], .agg #[.int .i64 plo, .int .i64 phi]] w fun e w' => e = .returned (.bool (decide (((ovl (lo, hi) (0, 2000)).2 + 1) * m - 1 < plo))) ∧ Below w.heap.size w w' := by
  obtain ⟨b0, b1, b2, b3⟩ := b
  have hme := fun w => me_mark_powers m w
  have hfd0 := @fld23_0
  have hfd1 := @fld23_1
  go_enter Try.func136, Try.ntmps136
  go_wp2
  refine region2 11 ?_ ?_ ?_
  · kernel_rfl
  · kernel_rfl
  simp only [List.take_succ_cons, List.take_zero, List.drop_succ_cons, List.drop_zero]
  apply chain_eq (D := [(2, none)]) rfl (by kernel_rfl)
  · intro ρ W ⟨p1, p2, p3⟩ hG hF K hK; (try simp [FactsD] at hF); have ⟨hc, hf, hz⟩ := bcell hG; go_simp; exact hK _ (gives_val)
  apply chain_eq (D := [(5, some 0)]) rfl (by kernel_rfl)
  · intro ρ W ⟨p1, p2, p3⟩ hG hF K hK; (try simp [FactsD] at hF); have ⟨hc, hf, hz⟩ := bcell hG; go_simp; exact hK _ (gives_val)
  apply chain_eq (D := [(2, none)]) rfl (by kernel_rfl)
  · intro ρ W ⟨p1, p2, p3⟩ hG hF K hK; (try simp [FactsD] at hF); have ⟨hc, hf, hz⟩ := bcell hG; go_simp; exact hK _ (gives_val)
  apply chain_eq (D := [(7, some 0)]) rfl (by kernel_rfl)
  · intro ρ W ⟨p1, p2, p3⟩ hG hF K hK; (try simp [FactsD] at hF); have ⟨hc, hf, hz⟩ := bcell hG; go_simp; exact hK _ (gives_call (steady_any _ _ _ _ _))
  apply chain_eq (D := [(6, some 2)]) rfl (by kernel_rfl)
  · intro ρ W ⟨p1, p2, p3⟩ hG hF K hK; (try simp [FactsD] at hF); have ⟨hc, hf, hz⟩ := bcell hG; go_simp; exact hK _ (gives_val)
  apply chain_eq (D := [(6, some 3)]) rfl (by kernel_rfl)
  · intro ρ W ⟨p1, p2, p3⟩ hG hF K hK; (try simp [FactsD] at hF); have ⟨hc, hf, hz⟩ := bcell hG; go_simp; exact hK _ (gives_val)
  apply chain_eq (D := [(10, some 0), (8, some 2)]) rfl (by kernel_rfl)
  · intro ρ W ⟨p1, p2, p3⟩ hG hF K hK; (try simp [FactsD] at hF); have ⟨hc, hf, hz⟩ := bcell hG; go_simp; exact hK _ (gives_call (markPowers_any _ _ _ _ b0 b1 b2 b3 h4 h5))
  apply chain_eq (D := [(11, some 0)]) rfl (by kernel_rfl)
  · intro ρ W ⟨p1, p2, p3⟩ hG hF K hK; (try simp [FactsD] at hF); have ⟨hc, hf, hz⟩ := bcell hG; go_simp; exact hK _ (gives_val)
  apply chain_eq (D := [(3, none)]) rfl (by kernel_rfl)
  · intro ρ W ⟨p1, p2, p3⟩ hG hF K hK; (try simp [FactsD] at hF); have ⟨hc, hf, hz⟩ := bcell hG; go_simp; exact hK _ (gives_val)
  apply chain_eq (D := [(13, some 0)]) rfl (by kernel_rfl)
  · intro ρ W ⟨p1, p2, p3⟩ hG hF K hK; (try simp [FactsD] at hF); have ⟨hc, hf, hz⟩ := bcell hG; go_simp; exact hK _ (gives_val)
  apply chain_eq (D := [(12, some 2), (14, some 0)]) rfl (by kernel_rfl)
  · intro ρ W ⟨p1, p2, p3⟩ hG hF K hK; (try simp [FactsD] at hF); have ⟨hc, hf, hz⟩ := bcell hG; go_simp; exact hK _ (gives_val)
  refine chain_done ?_
  intro vs W hG hV
  obtain ⟨e10, -⟩ := hV
  simp only [Nat.reduceSub] at e10
  simp only [lay, Act.put, List.getElem?_toArray, List.getElem?_cons_succ, List.getElem?_cons_zero, Option.bind_some, List.setIfInBounds_toArray, List.set_cons_succ, List.set_cons_zero]
  generalize vs 0 = v0
  generalize vs 1 = v1
  generalize vs 2 = v2
  generalize vs 3 = v3
  generalize vs 4 = v4
  generalize vs 5 = v5
  generalize vs 6 = v6
  generalize vs 7 = v7
  generalize vs 8 = v8
  generalize vs 9 = v9
  generalize vs 10 = v10 at *
  subst e10
  obtain ⟨hc, hf, hz⟩ := bcell hG
  go_wp2
  go_ret
  exact ⟨rfl, (bgr (((Below.refl _ _).alloc (by first | (simp; done) | (simp; omega) | omega) _).alloc (by first | (simp; done) | (simp; omega) | omega) _) (by first | (simp; done) | (simp; omega) | omega) hG)⟩
set_option maxHeartbeats 800000 in
theorem tooNear_mark (m : Int) (lo hi plo phi : Int) (sl : Bool) (w : World) (b : -10000 ≤ (ovl (lo, hi) (0, 2000)).1 ∧ (ovl (lo, hi) (0, 2000)).1 ≤ 10000 ∧ -10000 ≤ (ovl (lo, hi) (0, 2000)).2 ∧ (ovl (lo, hi) (0, 2000)).2 ≤ 10000) (h4 : 0 ≤ m) (h5 : m ≤ 1073741824) (hlo : decide (2000 < lo) = false) :
    Calls Try.prog 135 #[.agg #[.iface 181 (.int .i64 m), .int .i64 lo, .int .i64 hi, .bool sl], .agg #[.int .i64 plo, .int .i64 phi]] w fun e w' => e = .returned (.bool (decide (phi < (ovl (lo, hi) (0, 2000)).1 * m))) ∧ Below w.heap.size w w' := by
  obtain ⟨b0, b1, b2, b3⟩ := b
  have hme := fun w => me_mark_powers m w
  have hfd0 := @fld23_0
  have hfd1 := @fld23_1
  go_enter Try.func135, Try.ntmps135
  go_wp2
  refine region2 17 ?_ ?_ ?_
  · kernel_rfl
  · kernel_rfl
  simp only [List.take_succ_cons, List.take_zero, List.drop_succ_cons, List.drop_zero]
  apply chain_eq (D := [(2, none)]) rfl (by kernel_rfl)
  · intro ρ W ⟨p1, p2, p3⟩ hG hF K hK; (try simp [FactsD] at hF); have ⟨hc, hf, hz⟩ := bcell hG; go_simp; exact hK _ (gives_val)
  apply chain_eq (D := [(5, some 0)]) rfl (by kernel_rfl)
  · intro ρ W ⟨p1, p2, p3⟩ hG hF K hK; (try simp [FactsD] at hF); have ⟨hc, hf, hz⟩ := bcell hG; go_simp; exact hK _ (gives_val)
  apply chain_eq (D := [(6, some 0)]) rfl (by kernel_rfl)
  · intro ρ W ⟨p1, p2, p3⟩ hG hF K hK; (try simp [FactsD] at hF); have ⟨hc, hf, hz⟩ := bcell hG; go_simp; exact hK _ (gives_val)
  apply chain_eq (D := [(7, some 0)]) rfl (by kernel_rfl)
  · intro ρ W ⟨p1, p2, p3⟩ hG hF K hK; (try simp [FactsD] at hF); have ⟨hc, hf, hz⟩ := bcell hG; go_simp; exact hK _ (gives_val)
  apply chain_eq (D := [(8, some 0)]) rfl (by kernel_rfl)
  · intro ρ W ⟨p1, p2, p3⟩ hG hF K hK; (try simp [FactsD] at hF); have ⟨hc, hf, hz⟩ := bcell hG; go_simp; exact hK _ (gives_val)
  apply chain_leq (D := [(2, none), (9, some 0)]) (by kernel_rfl)
  · intro ρ W hF; (try simp [FactsD] at hF); simp [Lets, *]
  · intro ρ W ⟨p1, p2, p3⟩ hG hF K hK; (try simp [FactsD] at hF); have ⟨hc, hf, hz⟩ := bcell hG; go_simp; exact hK _ (gives_val)
  apply chain_leq (D := [(10, some 0), (9, some 1)]) (by kernel_rfl)
  · intro ρ W hF; (try simp [FactsD] at hF); simp [Lets, *]
  · intro ρ W ⟨p1, p2, p3⟩ hG hF K hK; (try simp [FactsD] at hF); have ⟨hc, hf, hz⟩ := bcell hG; go_simp; exact hK _ (gives_val)
  apply chain_leq (D := [(2, none), (9, some 2)]) (by kernel_rfl)
  · intro ρ W hF; (try simp [FactsD] at hF); simp [Lets, *]
  · intro ρ W ⟨p1, p2, p3⟩ hG hF K hK; (try simp [FactsD] at hF); have ⟨hc, hf, hz⟩ := bcell hG; go_simp; exact hK _ (gives_val)
  apply chain_leq (D := [(12, some 0), (9, some 3)]) (by kernel_rfl)
  · intro ρ W hF; (try simp [FactsD] at hF); simp [Lets, *]
  · intro ρ W ⟨p1, p2, p3⟩ hG hF K hK; (try simp [FactsD] at hF); have ⟨hc, hf, hz⟩ := bcell hG; go_simp; exact hK _ (gives_call (steady_any _ _ _ _ _))
  apply chain_leq (D := [(11, some 2), (9, some 4)]) (by kernel_rfl)
  · intro ρ W hF; (try simp [FactsD] at hF); simp [Lets, *]
  · intro ρ W ⟨p1, p2, p3⟩ hG hF K hK; (try simp [FactsD] at hF); have ⟨hc, hf, hz⟩ := bcell hG; go_simp; exact hK _ (gives_val)
  apply chain_leq (D := [(11, some 3), (9, some 5)]) (by kernel_rfl)
  · intro ρ W hF; (try simp [FactsD] at hF); simp [Lets, *]
  · intro ρ W ⟨p1, p2, p3⟩ hG hF K hK; (try simp [FactsD] at hF); have ⟨hc, hf, hz⟩ := bcell hG; go_simp; exact hK _ (gives_val)
  apply chain_leq (D := [(15, some 0), (13, some 2), (9, some 6)]) (by kernel_rfl)
  · intro ρ W hF; (try simp [FactsD] at hF); simp [Lets, *]
  · intro ρ W ⟨p1, p2, p3⟩ hG hF K hK; (try simp [FactsD] at hF); have ⟨hc, hf, hz⟩ := bcell hG; go_simp; exact hK _ (gives_call (markPowers_any _ _ _ _ b0 b1 b2 b3 h4 h5))
  apply chain_leq (D := [(16, some 0), (9, some 7)]) (by kernel_rfl)
  · intro ρ W hF; (try simp [FactsD] at hF); simp [Lets, *]
  · intro ρ W ⟨p1, p2, p3⟩ hG hF K hK; (try simp [FactsD] at hF); have ⟨hc, hf, hz⟩ := bcell hG; go_simp; exact hK _ (gives_val)
  apply chain_leq (D := [(3, none), (9, some 8)]) (by kernel_rfl)
  · intro ρ W hF; (try simp [FactsD] at hF); simp [Lets, *]
  · intro ρ W ⟨p1, p2, p3⟩ hG hF K hK; (try simp [FactsD] at hF); have ⟨hc, hf, hz⟩ := bcell hG; go_simp; exact hK _ (gives_val)
  apply chain_leq (D := [(18, some 0), (9, some 9)]) (by kernel_rfl)
  · intro ρ W hF; (try simp [FactsD] at hF); simp [Lets, *]
  · intro ρ W ⟨p1, p2, p3⟩ hG hF K hK; (try simp [FactsD] at hF); have ⟨hc, hf, hz⟩ := bcell hG; go_simp; exact hK _ (gives_val)
  apply chain_leq (D := [(17, some 2), (19, some 0), (9, some 10)]) (by kernel_rfl)
  · intro ρ W hF; (try simp [FactsD] at hF); simp [Lets, *]
  · intro ρ W ⟨p1, p2, p3⟩ hG hF K hK; (try simp [FactsD] at hF); have ⟨hc, hf, hz⟩ := bcell hG; go_simp; exact hK _ (gives_val)
  apply chain_eq (D := [(9, some 11), (20, some 0)]) rfl (by kernel_rfl)
  · intro ρ W ⟨p1, p2, p3⟩ hG hF K hK; (try simp [FactsD] at hF); have ⟨hc, hf, hz⟩ := bcell hG; go_simp; exact hK _ (gives_val)
  refine chain_done ?_
  intro vs W hG hV
  obtain ⟨e16, -⟩ := hV
  simp only [Nat.reduceSub] at e16
  simp only [lay, Act.put, List.getElem?_toArray, List.getElem?_cons_succ, List.getElem?_cons_zero, Option.bind_some, List.setIfInBounds_toArray, List.set_cons_succ, List.set_cons_zero]
  generalize vs 0 = v0
  generalize vs 1 = v1
  generalize vs 2 = v2
  generalize vs 3 = v3
  generalize vs 4 = v4
  generalize vs 5 = v5
  generalize vs 6 = v6
  generalize vs 7 = v7
  generalize vs 8 = v8
  generalize vs 9 = v9
  generalize vs 10 = v10
  generalize vs 11 = v11
  generalize vs 12 = v12
  generalize vs 13 = v13
  generalize vs 14 = v14
  generalize vs 15 = v15
  generalize vs 16 = v16 at *
  subst e16
  obtain ⟨hc, hf, hz⟩ := bcell hG
  go_wp2
  go_ret
  exact ⟨rfl, (bgr (((Below.refl _ _).alloc (by first | (simp; done) | (simp; omega) | omega) _).alloc (by first | (simp; done) | (simp; omega) | omega) _) (by first | (simp; done) | (simp; omega) | omega) hG)⟩
set_option maxHeartbeats 400000 in
theorem tooFar_far (n f : Int) (lo hi plo phi : Int) (sl : Bool) (w : World) (b : -10000 ≤ (ovl (lo, hi) (0, 2000)).1 ∧ (ovl (lo, hi) (0, 2000)).1 ≤ 10000 ∧ -10000 ≤ (ovl (lo, hi) (0, 2000)).2 ∧ (ovl (lo, hi) (0, 2000)).2 ≤ 10000) (h4 : 0 ≤ n) (h5 : n ≤ 1073741824) (h6 : 0 ≤ f) (h7 : f ≤ 1073741824) :
    Calls Try.prog 136 #[.agg #[.iface 180 (.agg #[.int .i64 n, .int .i64 f]), .int .i64 lo, .int .i64 hi, .bool sl], .agg #[.int .i64 plo, .int .i64 phi]] w fun e w' => e = .returned (.bool (decide (((ovl (lo, hi) (0, 2000)).2 + 1) * f - 1 < plo))) ∧ Below w.heap.size w w' := by
  obtain ⟨b0, b1, b2, b3⟩ := b
  have hme := fun w => me_far_powers n f w
  have hfd0 := @fld23_0
  have hfd1 := @fld23_1
  go_enter Try.func136, Try.ntmps136
  go_wp2
  refine region2 11 ?_ ?_ ?_
  · kernel_rfl
  · kernel_rfl
  simp only [List.take_succ_cons, List.take_zero, List.drop_succ_cons, List.drop_zero]
  apply chain_eq (D := [(2, none)]) rfl (by kernel_rfl)
  · intro ρ W ⟨p1, p2, p3⟩ hG hF K hK; (try simp [FactsD] at hF); have ⟨hc, hf, hz⟩ := bcell hG; go_simp; exact hK _ (gives_val)
  apply chain_eq (D := [(5, some 0)]) rfl (by kernel_rfl)
  · intro ρ W ⟨p1, p2, p3⟩ hG hF K hK; (try simp [FactsD] at hF); have ⟨hc, hf, hz⟩ := bcell hG; go_simp; exact hK _ (gives_val)
  apply chain_eq (D := [(2, none)]) rfl (by kernel_rfl)
  · intro ρ W ⟨p1, p2, p3⟩ hG hF K hK; (try simp [FactsD] at hF); have ⟨hc, hf, hz⟩ := bcell hG; go_simp; exact hK _ (gives_val)
  apply chain_eq (D := [(7, some 0)]) rfl (by kernel_rfl)
  · intro ρ W ⟨p1, p2, p3⟩ hG hF K hK; (try simp [FactsD] at hF); have ⟨hc, hf, hz⟩ := bcell hG; go_simp; exact hK _ (gives_call (steady_any _ _ _ _ _))
  apply chain_eq (D := [(6, some 2)]) rfl (by kernel_rfl)
  · intro ρ W ⟨p1, p2, p3⟩ hG hF K hK; (try simp [FactsD] at hF); have ⟨hc, hf, hz⟩ := bcell hG; go_simp; exact hK _ (gives_val)
  apply chain_eq (D := [(6, some 3)]) rfl (by kernel_rfl)
  · intro ρ W ⟨p1, p2, p3⟩ hG hF K hK; (try simp [FactsD] at hF); have ⟨hc, hf, hz⟩ := bcell hG; go_simp; exact hK _ (gives_val)
  apply chain_eq (D := [(10, some 0), (8, some 2)]) rfl (by kernel_rfl)
  · intro ρ W ⟨p1, p2, p3⟩ hG hF K hK; (try simp [FactsD] at hF); have ⟨hc, hf, hz⟩ := bcell hG; go_simp; exact hK _ (gives_call (farPowers_any _ _ _ _ _ b0 b1 b2 b3 h4 h5 h6 h7))
  apply chain_eq (D := [(11, some 0)]) rfl (by kernel_rfl)
  · intro ρ W ⟨p1, p2, p3⟩ hG hF K hK; (try simp [FactsD] at hF); have ⟨hc, hf, hz⟩ := bcell hG; go_simp; exact hK _ (gives_val)
  apply chain_eq (D := [(3, none)]) rfl (by kernel_rfl)
  · intro ρ W ⟨p1, p2, p3⟩ hG hF K hK; (try simp [FactsD] at hF); have ⟨hc, hf, hz⟩ := bcell hG; go_simp; exact hK _ (gives_val)
  apply chain_eq (D := [(13, some 0)]) rfl (by kernel_rfl)
  · intro ρ W ⟨p1, p2, p3⟩ hG hF K hK; (try simp [FactsD] at hF); have ⟨hc, hf, hz⟩ := bcell hG; go_simp; exact hK _ (gives_val)
  apply chain_eq (D := [(12, some 2), (14, some 0)]) rfl (by kernel_rfl)
  · intro ρ W ⟨p1, p2, p3⟩ hG hF K hK; (try simp [FactsD] at hF); have ⟨hc, hf, hz⟩ := bcell hG; go_simp; exact hK _ (gives_val)
  refine chain_done ?_
  intro vs W hG hV
  obtain ⟨e10, -⟩ := hV
  simp only [Nat.reduceSub] at e10
  simp only [lay, Act.put, List.getElem?_toArray, List.getElem?_cons_succ, List.getElem?_cons_zero, Option.bind_some, List.setIfInBounds_toArray, List.set_cons_succ, List.set_cons_zero]
  generalize vs 0 = v0
  generalize vs 1 = v1
  generalize vs 2 = v2
  generalize vs 3 = v3
  generalize vs 4 = v4
  generalize vs 5 = v5
  generalize vs 6 = v6
  generalize vs 7 = v7
  generalize vs 8 = v8
  generalize vs 9 = v9
  generalize vs 10 = v10 at *
  subst e10
  obtain ⟨hc, hf, hz⟩ := bcell hG
  go_wp2
  go_ret
  exact ⟨rfl, (bgr (((Below.refl _ _).alloc (by first | (simp; done) | (simp; omega) | omega) _).alloc (by first | (simp; done) | (simp; omega) | omega) _) (by first | (simp; done) | (simp; omega) | omega) hG)⟩
set_option maxHeartbeats 800000 in
theorem tooNear_far (n f : Int) (lo hi plo phi : Int) (sl : Bool) (w : World) (b : -10000 ≤ (ovl (lo, hi) (0, 2000)).1 ∧ (ovl (lo, hi) (0, 2000)).1 ≤ 10000 ∧ -10000 ≤ (ovl (lo, hi) (0, 2000)).2 ∧ (ovl (lo, hi) (0, 2000)).2 ≤ 10000) (h4 : 0 ≤ n) (h5 : n ≤ 1073741824) (h6 : 0 ≤ f) (h7 : f ≤ 1073741824) (hlo : decide (2000 < lo) = false) :
    Calls Try.prog 135 #[.agg #[.iface 180 (.agg #[.int .i64 n, .int .i64 f]), .int .i64 lo, .int .i64 hi, .bool sl], .agg #[.int .i64 plo, .int .i64 phi]] w fun e w' => e = .returned (.bool (decide (phi < (ovl (lo, hi) (0, 2000)).1 * n))) ∧ Below w.heap.size w w' := by
  obtain ⟨b0, b1, b2, b3⟩ := b
  have hme := fun w => me_far_powers n f w
  have hfd0 := @fld23_0
  have hfd1 := @fld23_1
  go_enter Try.func135, Try.ntmps135
  go_wp2
  refine region2 17 ?_ ?_ ?_
  · kernel_rfl
  · kernel_rfl
  simp only [List.take_succ_cons, List.take_zero, List.drop_succ_cons, List.drop_zero]
  apply chain_eq (D := [(2, none)]) rfl (by kernel_rfl)
  · intro ρ W ⟨p1, p2, p3⟩ hG hF K hK; (try simp [FactsD] at hF); have ⟨hc, hf, hz⟩ := bcell hG; go_simp; exact hK _ (gives_val)
  apply chain_eq (D := [(5, some 0)]) rfl (by kernel_rfl)
  · intro ρ W ⟨p1, p2, p3⟩ hG hF K hK; (try simp [FactsD] at hF); have ⟨hc, hf, hz⟩ := bcell hG; go_simp; exact hK _ (gives_val)
  apply chain_eq (D := [(6, some 0)]) rfl (by kernel_rfl)
  · intro ρ W ⟨p1, p2, p3⟩ hG hF K hK; (try simp [FactsD] at hF); have ⟨hc, hf, hz⟩ := bcell hG; go_simp; exact hK _ (gives_val)
  apply chain_eq (D := [(7, some 0)]) rfl (by kernel_rfl)
  · intro ρ W ⟨p1, p2, p3⟩ hG hF K hK; (try simp [FactsD] at hF); have ⟨hc, hf, hz⟩ := bcell hG; go_simp; exact hK _ (gives_val)
  apply chain_eq (D := [(8, some 0)]) rfl (by kernel_rfl)
  · intro ρ W ⟨p1, p2, p3⟩ hG hF K hK; (try simp [FactsD] at hF); have ⟨hc, hf, hz⟩ := bcell hG; go_simp; exact hK _ (gives_val)
  apply chain_leq (D := [(2, none), (9, some 0)]) (by kernel_rfl)
  · intro ρ W hF; (try simp [FactsD] at hF); simp [Lets, *]
  · intro ρ W ⟨p1, p2, p3⟩ hG hF K hK; (try simp [FactsD] at hF); have ⟨hc, hf, hz⟩ := bcell hG; go_simp; exact hK _ (gives_val)
  apply chain_leq (D := [(10, some 0), (9, some 1)]) (by kernel_rfl)
  · intro ρ W hF; (try simp [FactsD] at hF); simp [Lets, *]
  · intro ρ W ⟨p1, p2, p3⟩ hG hF K hK; (try simp [FactsD] at hF); have ⟨hc, hf, hz⟩ := bcell hG; go_simp; exact hK _ (gives_val)
  apply chain_leq (D := [(2, none), (9, some 2)]) (by kernel_rfl)
  · intro ρ W hF; (try simp [FactsD] at hF); simp [Lets, *]
  · intro ρ W ⟨p1, p2, p3⟩ hG hF K hK; (try simp [FactsD] at hF); have ⟨hc, hf, hz⟩ := bcell hG; go_simp; exact hK _ (gives_val)
  apply chain_leq (D := [(12, some 0), (9, some 3)]) (by kernel_rfl)
  · intro ρ W hF; (try simp [FactsD] at hF); simp [Lets, *]
  · intro ρ W ⟨p1, p2, p3⟩ hG hF K hK; (try simp [FactsD] at hF); have ⟨hc, hf, hz⟩ := bcell hG; go_simp; exact hK _ (gives_call (steady_any _ _ _ _ _))
  apply chain_leq (D := [(11, some 2), (9, some 4)]) (by kernel_rfl)
  · intro ρ W hF; (try simp [FactsD] at hF); simp [Lets, *]
  · intro ρ W ⟨p1, p2, p3⟩ hG hF K hK; (try simp [FactsD] at hF); have ⟨hc, hf, hz⟩ := bcell hG; go_simp; exact hK _ (gives_val)
  apply chain_leq (D := [(11, some 3), (9, some 5)]) (by kernel_rfl)
  · intro ρ W hF; (try simp [FactsD] at hF); simp [Lets, *]
  · intro ρ W ⟨p1, p2, p3⟩ hG hF K hK; (try simp [FactsD] at hF); have ⟨hc, hf, hz⟩ := bcell hG; go_simp; exact hK _ (gives_val)
  apply chain_leq (D := [(15, some 0), (13, some 2), (9, some 6)]) (by kernel_rfl)
  · intro ρ W hF; (try simp [FactsD] at hF); simp [Lets, *]
  · intro ρ W ⟨p1, p2, p3⟩ hG hF K hK; (try simp [FactsD] at hF); have ⟨hc, hf, hz⟩ := bcell hG; go_simp; exact hK _ (gives_call (farPowers_any _ _ _ _ _ b0 b1 b2 b3 h4 h5 h6 h7))
  apply chain_leq (D := [(16, some 0), (9, some 7)]) (by kernel_rfl)
  · intro ρ W hF; (try simp [FactsD] at hF); simp [Lets, *]
  · intro ρ W ⟨p1, p2, p3⟩ hG hF K hK; (try simp [FactsD] at hF); have ⟨hc, hf, hz⟩ := bcell hG; go_simp; exact hK _ (gives_val)
  apply chain_leq (D := [(3, none), (9, some 8)]) (by kernel_rfl)
  · intro ρ W hF; (try simp [FactsD] at hF); simp [Lets, *]
  · intro ρ W ⟨p1, p2, p3⟩ hG hF K hK; (try simp [FactsD] at hF); have ⟨hc, hf, hz⟩ := bcell hG; go_simp; exact hK _ (gives_val)
  apply chain_leq (D := [(18, some 0), (9, some 9)]) (by kernel_rfl)
  · intro ρ W hF; (try simp [FactsD] at hF); simp [Lets, *]
  · intro ρ W ⟨p1, p2, p3⟩ hG hF K hK; (try simp [FactsD] at hF); have ⟨hc, hf, hz⟩ := bcell hG; go_simp; exact hK _ (gives_val)
  apply chain_leq (D := [(17, some 2), (19, some 0), (9, some 10)]) (by kernel_rfl)
  · intro ρ W hF; (try simp [FactsD] at hF); simp [Lets, *]
  · intro ρ W ⟨p1, p2, p3⟩ hG hF K hK; (try simp [FactsD] at hF); have ⟨hc, hf, hz⟩ := bcell hG; go_simp; exact hK _ (gives_val)
  apply chain_eq (D := [(9, some 11), (20, some 0)]) rfl (by kernel_rfl)
  · intro ρ W ⟨p1, p2, p3⟩ hG hF K hK; (try simp [FactsD] at hF); have ⟨hc, hf, hz⟩ := bcell hG; go_simp; exact hK _ (gives_val)
  refine chain_done ?_
  intro vs W hG hV
  obtain ⟨e16, -⟩ := hV
  simp only [Nat.reduceSub] at e16
  simp only [lay, Act.put, List.getElem?_toArray, List.getElem?_cons_succ, List.getElem?_cons_zero, Option.bind_some, List.setIfInBounds_toArray, List.set_cons_succ, List.set_cons_zero]
  generalize vs 0 = v0
  generalize vs 1 = v1
  generalize vs 2 = v2
  generalize vs 3 = v3
  generalize vs 4 = v4
  generalize vs 5 = v5
  generalize vs 6 = v6
  generalize vs 7 = v7
  generalize vs 8 = v8
  generalize vs 9 = v9
  generalize vs 10 = v10
  generalize vs 11 = v11
  generalize vs 12 = v12
  generalize vs 13 = v13
  generalize vs 14 = v14
  generalize vs 15 = v15
  generalize vs 16 = v16 at *
  subst e16
  obtain ⟨hc, hf, hz⟩ := bcell hG
  go_wp2
  go_ret
  exact ⟨rfl, (bgr (((Below.refl _ _).alloc (by first | (simp; done) | (simp; omega) | omega) _).alloc (by first | (simp; done) | (simp; omega) | omega) _) (by first | (simp; done) | (simp; omega) | omega) hG)⟩
set_option maxHeartbeats 800000 in
theorem tooNear_yes (wit : Value) (lo hi plo phi : Int) (sl : Bool) (w : World) (hlo : decide (2000 < lo) = true) :
    Calls Try.prog 135 #[.agg #[wit, .int .i64 lo, .int .i64 hi, .bool sl], .agg #[.int .i64 plo, .int .i64 phi]] w fun e w' => e = .returned (.bool true) ∧ Below w.heap.size w w' := by
  go_enter Try.func135, Try.ntmps135
  go_wp2
  refine region2 17 ?_ ?_ ?_
  · kernel_rfl
  · kernel_rfl
  simp only [List.take_succ_cons, List.take_zero, List.drop_succ_cons, List.drop_zero]
  apply chain_eq (D := [(2, none)]) rfl (by kernel_rfl)
  · intro ρ W ⟨p1, p2, p3⟩ hG hF K hK; (try simp [FactsD] at hF); have ⟨hc, hf, hz⟩ := bcell hG; go_simp; exact hK _ (gives_val)
  apply chain_eq (D := [(5, some 0)]) rfl (by kernel_rfl)
  · intro ρ W ⟨p1, p2, p3⟩ hG hF K hK; (try simp [FactsD] at hF); have ⟨hc, hf, hz⟩ := bcell hG; go_simp; exact hK _ (gives_val)
  apply chain_eq (D := [(6, some 0)]) rfl (by kernel_rfl)
  · intro ρ W ⟨p1, p2, p3⟩ hG hF K hK; (try simp [FactsD] at hF); have ⟨hc, hf, hz⟩ := bcell hG; go_simp; exact hK _ (gives_val)
  apply chain_eq (D := [(7, some 0)]) rfl (by kernel_rfl)
  · intro ρ W ⟨p1, p2, p3⟩ hG hF K hK; (try simp [FactsD] at hF); have ⟨hc, hf, hz⟩ := bcell hG; go_simp; exact hK _ (gives_val)
  apply chain_eq (D := [(8, some 0)]) rfl (by kernel_rfl)
  · intro ρ W ⟨p1, p2, p3⟩ hG hF K hK; (try simp [FactsD] at hF); have ⟨hc, hf, hz⟩ := bcell hG; go_simp; exact hK _ (gives_val)
  refine chain_skip (D := [(2, none), (9, some 0)]) (by kernel_rfl) ?_ ?_
  · intro ρ W hF; (try simp [FactsD] at hF); simp [Lets, *]
  refine chain_skip (D := [(10, some 0), (9, some 1)]) (by kernel_rfl) ?_ ?_
  · intro ρ W hF; (try simp [FactsD] at hF); simp [Lets, *]
  refine chain_skip (D := [(2, none), (9, some 2)]) (by kernel_rfl) ?_ ?_
  · intro ρ W hF; (try simp [FactsD] at hF); simp [Lets, *]
  refine chain_skip (D := [(12, some 0), (9, some 3)]) (by kernel_rfl) ?_ ?_
  · intro ρ W hF; (try simp [FactsD] at hF); simp [Lets, *]
  refine chain_skip (D := [(11, some 2), (9, some 4)]) (by kernel_rfl) ?_ ?_
  · intro ρ W hF; (try simp [FactsD] at hF); simp [Lets, *]
  refine chain_skip (D := [(11, some 3), (9, some 5)]) (by kernel_rfl) ?_ ?_
  · intro ρ W hF; (try simp [FactsD] at hF); simp [Lets, *]
  refine chain_skip (D := [(15, some 0), (13, some 2), (9, some 6)]) (by kernel_rfl) ?_ ?_
  · intro ρ W hF; (try simp [FactsD] at hF); simp [Lets, *]
  refine chain_skip (D := [(16, some 0), (9, some 7)]) (by kernel_rfl) ?_ ?_
  · intro ρ W hF; (try simp [FactsD] at hF); simp [Lets, *]
  refine chain_skip (D := [(3, none), (9, some 8)]) (by kernel_rfl) ?_ ?_
  · intro ρ W hF; (try simp [FactsD] at hF); simp [Lets, *]
  refine chain_skip (D := [(18, some 0), (9, some 9)]) (by kernel_rfl) ?_ ?_
  · intro ρ W hF; (try simp [FactsD] at hF); simp [Lets, *]
  refine chain_skip (D := [(17, some 2), (19, some 0), (9, some 10)]) (by kernel_rfl) ?_ ?_
  · intro ρ W hF; (try simp [FactsD] at hF); simp [Lets, *]
  apply chain_eq (D := [(9, some 11), (20, some 0)]) rfl (by kernel_rfl)
  · intro ρ W ⟨p1, p2, p3⟩ hG hF K hK; (try simp [FactsD] at hF); have ⟨hc, hf, hz⟩ := bcell hG; go_simp; exact hK _ (gives_val)
  refine chain_done ?_
  intro vs W hG hV
  obtain ⟨e16, -⟩ := hV
  simp only [Nat.reduceSub] at e16
  simp only [lay, Act.put, List.getElem?_toArray, List.getElem?_cons_succ, List.getElem?_cons_zero, Option.bind_some, List.setIfInBounds_toArray, List.set_cons_succ, List.set_cons_zero]
  generalize vs 0 = v0
  generalize vs 1 = v1
  generalize vs 2 = v2
  generalize vs 3 = v3
  generalize vs 4 = v4
  generalize vs 5 = v5
  generalize vs 6 = v6
  generalize vs 7 = v7
  generalize vs 8 = v8
  generalize vs 9 = v9
  generalize vs 10 = v10
  generalize vs 11 = v11
  generalize vs 12 = v12
  generalize vs 13 = v13
  generalize vs 14 = v14
  generalize vs 15 = v15
  generalize vs 16 = v16 at *
  subst e16
  obtain ⟨hc, hf, hz⟩ := bcell hG
  go_wp2
  go_ret
  exact ⟨rfl, (bgr (((Below.refl _ _).alloc (by first | (simp; done) | (simp; omega) | omega) _).alloc (by first | (simp; done) | (simp; omega) | omega) _) (by first | (simp; done) | (simp; omega) | omega) hG)⟩
end Go.Proofs.Ytjlaoiimbhlafaa.Pq
