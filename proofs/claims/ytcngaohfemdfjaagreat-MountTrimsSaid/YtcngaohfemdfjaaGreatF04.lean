import Derived.Test.YtcngaohfemdfjaaGreatF03
set_option linter.unusedVariables false
set_option linter.unusedSimpArgs false
set_option maxRecDepth 100000
set_option maxHeartbeats 60000000
namespace Go.Proofs.YtcngaohfemdfjaaGreat
open Go.RowKit
theorem fld23_0 (x y : Value) (w : World) : (Instr.field 23 (.agg #[x, y]) 0).run Tryz.prog w = .ok x w := by kernel_rfl
theorem fld23_1 (x y : Value) (w : World) : (Instr.field 23 (.agg #[x, y]) 1).run Tryz.prog w = .ok y w := by kernel_rfl
theorem tooFar_mark (m : Int) (lo hi plo phi : Int) (sl : Bool) (w : World) (b : -10000 ≤ (ovl (lo, hi) (0, 2000)).1 ∧ (ovl (lo, hi) (0, 2000)).1 ≤ 10000 ∧ -10000 ≤ (ovl (lo, hi) (0, 2000)).2 ∧ (ovl (lo, hi) (0, 2000)).2 ≤ 10000) (h4 : 0 ≤ m) (h5 : m ≤ 1073741824) :
    Calls Tryz.prog 145 #[.agg #[.iface 197 (.int .i64 m), .int .i64 lo, .int .i64 hi, .bool sl], .agg #[.int .i64 plo, .int .i64 phi]] w fun e w' => e = .returned (.bool (decide (((ovl (lo, hi) (0, 2000)).2 + 1) * m - 1 < plo))) ∧ Below w.heap.size w w' := by
  obtain ⟨b0, b1, b2, b3⟩ := b
  have hme := fun w => me_mark_powers m w
  have hfd0 := @fld23_0
  have hfd1 := @fld23_1
  go_enter Tryz.func145, Tryz.ntmps145
  go_wp2
  refine region2 11 ?_ ?_ ?_
  · kernel_rfl
  · kernel_rfl
  simp only [List.take_succ_cons, List.take_zero, List.drop_succ_cons, List.drop_zero]
  apply ceq (D := [(2, none)]) rfl (by kernel_rfl)
  · intro ρ W ⟨p1,p2,p3⟩ hG hF K hK; (try simp [FD] at hF); have ⟨hc, hf, hz⟩ := bcell hG; go_simp; exact hK _ gv
  apply ceq (D := [(5, some 0)]) rfl (by kernel_rfl)
  · intro ρ W ⟨p1,p2,p3⟩ hG hF K hK; (try simp [FD] at hF); have ⟨hc, hf, hz⟩ := bcell hG; go_simp; exact hK _ gv
  apply ceq (D := [(2, none)]) rfl (by kernel_rfl)
  · intro ρ W ⟨p1,p2,p3⟩ hG hF K hK; (try simp [FD] at hF); have ⟨hc, hf, hz⟩ := bcell hG; go_simp; exact hK _ gv
  apply ceq (D := [(7, some 0)]) rfl (by kernel_rfl)
  · intro ρ W ⟨p1,p2,p3⟩ hG hF K hK; (try simp [FD] at hF); have ⟨hc, hf, hz⟩ := bcell hG; go_simp; exact hK _ (gc (steady_any _ _ _ _ _))
  apply ceq (D := [(6, some 2)]) rfl (by kernel_rfl)
  · intro ρ W ⟨p1,p2,p3⟩ hG hF K hK; (try simp [FD] at hF); have ⟨hc, hf, hz⟩ := bcell hG; go_simp; exact hK _ gv
  apply ceq (D := [(6, some 3)]) rfl (by kernel_rfl)
  · intro ρ W ⟨p1,p2,p3⟩ hG hF K hK; (try simp [FD] at hF); have ⟨hc, hf, hz⟩ := bcell hG; go_simp; exact hK _ gv
  apply ceq (D := [(10, some 0), (8, some 2)]) rfl (by kernel_rfl)
  · intro ρ W ⟨p1,p2,p3⟩ hG hF K hK; (try simp [FD] at hF); have ⟨hc, hf, hz⟩ := bcell hG; go_simp; exact hK _ (gc (markPowers_any _ _ _ _ b0 b1 b2 b3 h4 h5))
  apply ceq (D := [(11, some 0)]) rfl (by kernel_rfl)
  · intro ρ W ⟨p1,p2,p3⟩ hG hF K hK; (try simp [FD] at hF); have ⟨hc, hf, hz⟩ := bcell hG; go_simp; exact hK _ gv
  apply ceq (D := [(3, none)]) rfl (by kernel_rfl)
  · intro ρ W ⟨p1,p2,p3⟩ hG hF K hK; (try simp [FD] at hF); have ⟨hc, hf, hz⟩ := bcell hG; go_simp; exact hK _ gv
  apply ceq (D := [(13, some 0)]) rfl (by kernel_rfl)
  · intro ρ W ⟨p1,p2,p3⟩ hG hF K hK; (try simp [FD] at hF); have ⟨hc, hf, hz⟩ := bcell hG; go_simp; exact hK _ gv
  apply ceq (D := [(12, some 2), (14, some 0)]) rfl (by kernel_rfl)
  · intro ρ W ⟨p1,p2,p3⟩ hG hF K hK; (try simp [FD] at hF); have ⟨hc, hf, hz⟩ := bcell hG; go_simp; exact hK _ gv
  refine cdn ?_
  intro vs W hG hV
  obtain ⟨e10, -⟩ := hV
  simp only [Nat.reduceSub] at e10
  simp only [lay, Act.put, List.getElem?_toArray, List.getElem?_cons_succ, List.getElem?_cons_zero, Option.bind_some, List.setIfInBounds_toArray, List.set_cons_succ, List.set_cons_zero]
  generalize vs 0 = v0, vs 1 = v1, vs 2 = v2, vs 3 = v3, vs 4 = v4, vs 5 = v5, vs 6 = v6, vs 7 = v7, vs 8 = v8, vs 9 = v9
  generalize vs 10 = v10 at *
  subst e10
  obtain ⟨hc, hf, hz⟩ := bcell hG
  go_wp2
  go_ret
  exact ⟨rfl, (bgr (((Below.refl _ _).alloc (by first | (simp <;> omega) | omega) _).alloc (by first | (simp <;> omega) | omega) _) (by first | (simp <;> omega) | omega) hG)⟩
theorem tooNear_mark (m : Int) (lo hi plo phi : Int) (sl : Bool) (w : World) (b : -10000 ≤ (ovl (lo, hi) (0, 2000)).1 ∧ (ovl (lo, hi) (0, 2000)).1 ≤ 10000 ∧ -10000 ≤ (ovl (lo, hi) (0, 2000)).2 ∧ (ovl (lo, hi) (0, 2000)).2 ≤ 10000) (h4 : 0 ≤ m) (h5 : m ≤ 1073741824) (hlo : decide (2000 < lo) = false) :
    Calls Tryz.prog 144 #[.agg #[.iface 197 (.int .i64 m), .int .i64 lo, .int .i64 hi, .bool sl], .agg #[.int .i64 plo, .int .i64 phi]] w fun e w' => e = .returned (.bool (decide (phi < (ovl (lo, hi) (0, 2000)).1 * m))) ∧ Below w.heap.size w w' := by
  obtain ⟨b0, b1, b2, b3⟩ := b
  have hme := fun w => me_mark_powers m w
  have hfd0 := @fld23_0
  have hfd1 := @fld23_1
  go_enter Tryz.func144, Tryz.ntmps144
  go_wp2
  refine region2 17 ?_ ?_ ?_
  · kernel_rfl
  · kernel_rfl
  simp only [List.take_succ_cons, List.take_zero, List.drop_succ_cons, List.drop_zero]
  apply ceq (D := [(2, none)]) rfl (by kernel_rfl)
  · intro ρ W ⟨p1,p2,p3⟩ hG hF K hK; (try simp [FD] at hF); have ⟨hc, hf, hz⟩ := bcell hG; go_simp; exact hK _ gv
  apply ceq (D := [(5, some 0)]) rfl (by kernel_rfl)
  · intro ρ W ⟨p1,p2,p3⟩ hG hF K hK; (try simp [FD] at hF); have ⟨hc, hf, hz⟩ := bcell hG; go_simp; exact hK _ gv
  apply ceq (D := [(6, some 0)]) rfl (by kernel_rfl)
  · intro ρ W ⟨p1,p2,p3⟩ hG hF K hK; (try simp [FD] at hF); have ⟨hc, hf, hz⟩ := bcell hG; go_simp; exact hK _ gv
  apply ceq (D := [(7, some 0)]) rfl (by kernel_rfl)
  · intro ρ W ⟨p1,p2,p3⟩ hG hF K hK; (try simp [FD] at hF); have ⟨hc, hf, hz⟩ := bcell hG; go_simp; exact hK _ gv
  apply ceq (D := [(8, some 0)]) rfl (by kernel_rfl)
  · intro ρ W ⟨p1,p2,p3⟩ hG hF K hK; (try simp [FD] at hF); have ⟨hc, hf, hz⟩ := bcell hG; go_simp; exact hK _ gv
  apply clq (D := [(2, none), (9, some 0)]) (by kernel_rfl)
  · intro ρ W hF; (try simp [FD] at hF); simp [Lets, *]
  · intro ρ W ⟨p1,p2,p3⟩ hG hF K hK; (try simp [FD] at hF); have ⟨hc, hf, hz⟩ := bcell hG; go_simp; exact hK _ gv
  apply clq (D := [(10, some 0), (9, some 1)]) (by kernel_rfl)
  · intro ρ W hF; (try simp [FD] at hF); simp [Lets, *]
  · intro ρ W ⟨p1,p2,p3⟩ hG hF K hK; (try simp [FD] at hF); have ⟨hc, hf, hz⟩ := bcell hG; go_simp; exact hK _ gv
  apply clq (D := [(2, none), (9, some 2)]) (by kernel_rfl)
  · intro ρ W hF; (try simp [FD] at hF); simp [Lets, *]
  · intro ρ W ⟨p1,p2,p3⟩ hG hF K hK; (try simp [FD] at hF); have ⟨hc, hf, hz⟩ := bcell hG; go_simp; exact hK _ gv
  apply clq (D := [(12, some 0), (9, some 3)]) (by kernel_rfl)
  · intro ρ W hF; (try simp [FD] at hF); simp [Lets, *]
  · intro ρ W ⟨p1,p2,p3⟩ hG hF K hK; (try simp [FD] at hF); have ⟨hc, hf, hz⟩ := bcell hG; go_simp; exact hK _ (gc (steady_any _ _ _ _ _))
  apply clq (D := [(11, some 2), (9, some 4)]) (by kernel_rfl)
  · intro ρ W hF; (try simp [FD] at hF); simp [Lets, *]
  · intro ρ W ⟨p1,p2,p3⟩ hG hF K hK; (try simp [FD] at hF); have ⟨hc, hf, hz⟩ := bcell hG; go_simp; exact hK _ gv
  apply clq (D := [(11, some 3), (9, some 5)]) (by kernel_rfl)
  · intro ρ W hF; (try simp [FD] at hF); simp [Lets, *]
  · intro ρ W ⟨p1,p2,p3⟩ hG hF K hK; (try simp [FD] at hF); have ⟨hc, hf, hz⟩ := bcell hG; go_simp; exact hK _ gv
  apply clq (D := [(15, some 0), (13, some 2), (9, some 6)]) (by kernel_rfl)
  · intro ρ W hF; (try simp [FD] at hF); simp [Lets, *]
  · intro ρ W ⟨p1,p2,p3⟩ hG hF K hK; (try simp [FD] at hF); have ⟨hc, hf, hz⟩ := bcell hG; go_simp; exact hK _ (gc (markPowers_any _ _ _ _ b0 b1 b2 b3 h4 h5))
  apply clq (D := [(16, some 0), (9, some 7)]) (by kernel_rfl)
  · intro ρ W hF; (try simp [FD] at hF); simp [Lets, *]
  · intro ρ W ⟨p1,p2,p3⟩ hG hF K hK; (try simp [FD] at hF); have ⟨hc, hf, hz⟩ := bcell hG; go_simp; exact hK _ gv
  apply clq (D := [(3, none), (9, some 8)]) (by kernel_rfl)
  · intro ρ W hF; (try simp [FD] at hF); simp [Lets, *]
  · intro ρ W ⟨p1,p2,p3⟩ hG hF K hK; (try simp [FD] at hF); have ⟨hc, hf, hz⟩ := bcell hG; go_simp; exact hK _ gv
  apply clq (D := [(18, some 0), (9, some 9)]) (by kernel_rfl)
  · intro ρ W hF; (try simp [FD] at hF); simp [Lets, *]
  · intro ρ W ⟨p1,p2,p3⟩ hG hF K hK; (try simp [FD] at hF); have ⟨hc, hf, hz⟩ := bcell hG; go_simp; exact hK _ gv
  apply clq (D := [(17, some 2), (19, some 0), (9, some 10)]) (by kernel_rfl)
  · intro ρ W hF; (try simp [FD] at hF); simp [Lets, *]
  · intro ρ W ⟨p1,p2,p3⟩ hG hF K hK; (try simp [FD] at hF); have ⟨hc, hf, hz⟩ := bcell hG; go_simp; exact hK _ gv
  apply ceq (D := [(9, some 11), (20, some 0)]) rfl (by kernel_rfl)
  · intro ρ W ⟨p1,p2,p3⟩ hG hF K hK; (try simp [FD] at hF); have ⟨hc, hf, hz⟩ := bcell hG; go_simp; exact hK _ gv
  refine cdn ?_
  intro vs W hG hV
  obtain ⟨e16, -⟩ := hV
  simp only [Nat.reduceSub] at e16
  simp only [lay, Act.put, List.getElem?_toArray, List.getElem?_cons_succ, List.getElem?_cons_zero, Option.bind_some, List.setIfInBounds_toArray, List.set_cons_succ, List.set_cons_zero]
  generalize vs 0 = v0, vs 1 = v1, vs 2 = v2, vs 3 = v3, vs 4 = v4, vs 5 = v5, vs 6 = v6, vs 7 = v7, vs 8 = v8, vs 9 = v9, vs 10 = v10, vs 11 = v11, vs 12 = v12, vs 13 = v13, vs 14 = v14, vs 15 = v15
  generalize vs 16 = v16 at *
  subst e16
  obtain ⟨hc, hf, hz⟩ := bcell hG
  go_wp2
  go_ret
  exact ⟨rfl, (bgr (((Below.refl _ _).alloc (by first | (simp <;> omega) | omega) _).alloc (by first | (simp <;> omega) | omega) _) (by first | (simp <;> omega) | omega) hG)⟩
theorem tooFar_far (n f : Int) (lo hi plo phi : Int) (sl : Bool) (w : World) (b : -10000 ≤ (ovl (lo, hi) (0, 2000)).1 ∧ (ovl (lo, hi) (0, 2000)).1 ≤ 10000 ∧ -10000 ≤ (ovl (lo, hi) (0, 2000)).2 ∧ (ovl (lo, hi) (0, 2000)).2 ≤ 10000) (h4 : 0 ≤ n) (h5 : n ≤ 1073741824) (h6 : 0 ≤ f) (h7 : f ≤ 1073741824) :
    Calls Tryz.prog 145 #[.agg #[.iface 196 (.agg #[.int .i64 n, .int .i64 f]), .int .i64 lo, .int .i64 hi, .bool sl], .agg #[.int .i64 plo, .int .i64 phi]] w fun e w' => e = .returned (.bool (decide (((ovl (lo, hi) (0, 2000)).2 + 1) * f - 1 < plo))) ∧ Below w.heap.size w w' := by
  obtain ⟨b0, b1, b2, b3⟩ := b
  have hme := fun w => me_far_powers n f w
  have hfd0 := @fld23_0
  have hfd1 := @fld23_1
  go_enter Tryz.func145, Tryz.ntmps145
  go_wp2
  refine region2 11 ?_ ?_ ?_
  · kernel_rfl
  · kernel_rfl
  simp only [List.take_succ_cons, List.take_zero, List.drop_succ_cons, List.drop_zero]
  apply ceq (D := [(2, none)]) rfl (by kernel_rfl)
  · intro ρ W ⟨p1,p2,p3⟩ hG hF K hK; (try simp [FD] at hF); have ⟨hc, hf, hz⟩ := bcell hG; go_simp; exact hK _ gv
  apply ceq (D := [(5, some 0)]) rfl (by kernel_rfl)
  · intro ρ W ⟨p1,p2,p3⟩ hG hF K hK; (try simp [FD] at hF); have ⟨hc, hf, hz⟩ := bcell hG; go_simp; exact hK _ gv
  apply ceq (D := [(2, none)]) rfl (by kernel_rfl)
  · intro ρ W ⟨p1,p2,p3⟩ hG hF K hK; (try simp [FD] at hF); have ⟨hc, hf, hz⟩ := bcell hG; go_simp; exact hK _ gv
  apply ceq (D := [(7, some 0)]) rfl (by kernel_rfl)
  · intro ρ W ⟨p1,p2,p3⟩ hG hF K hK; (try simp [FD] at hF); have ⟨hc, hf, hz⟩ := bcell hG; go_simp; exact hK _ (gc (steady_any _ _ _ _ _))
  apply ceq (D := [(6, some 2)]) rfl (by kernel_rfl)
  · intro ρ W ⟨p1,p2,p3⟩ hG hF K hK; (try simp [FD] at hF); have ⟨hc, hf, hz⟩ := bcell hG; go_simp; exact hK _ gv
  apply ceq (D := [(6, some 3)]) rfl (by kernel_rfl)
  · intro ρ W ⟨p1,p2,p3⟩ hG hF K hK; (try simp [FD] at hF); have ⟨hc, hf, hz⟩ := bcell hG; go_simp; exact hK _ gv
  apply ceq (D := [(10, some 0), (8, some 2)]) rfl (by kernel_rfl)
  · intro ρ W ⟨p1,p2,p3⟩ hG hF K hK; (try simp [FD] at hF); have ⟨hc, hf, hz⟩ := bcell hG; go_simp; exact hK _ (gc (farPowers_any _ _ _ _ _ b0 b1 b2 b3 h4 h5 h6 h7))
  apply ceq (D := [(11, some 0)]) rfl (by kernel_rfl)
  · intro ρ W ⟨p1,p2,p3⟩ hG hF K hK; (try simp [FD] at hF); have ⟨hc, hf, hz⟩ := bcell hG; go_simp; exact hK _ gv
  apply ceq (D := [(3, none)]) rfl (by kernel_rfl)
  · intro ρ W ⟨p1,p2,p3⟩ hG hF K hK; (try simp [FD] at hF); have ⟨hc, hf, hz⟩ := bcell hG; go_simp; exact hK _ gv
  apply ceq (D := [(13, some 0)]) rfl (by kernel_rfl)
  · intro ρ W ⟨p1,p2,p3⟩ hG hF K hK; (try simp [FD] at hF); have ⟨hc, hf, hz⟩ := bcell hG; go_simp; exact hK _ gv
  apply ceq (D := [(12, some 2), (14, some 0)]) rfl (by kernel_rfl)
  · intro ρ W ⟨p1,p2,p3⟩ hG hF K hK; (try simp [FD] at hF); have ⟨hc, hf, hz⟩ := bcell hG; go_simp; exact hK _ gv
  refine cdn ?_
  intro vs W hG hV
  obtain ⟨e10, -⟩ := hV
  simp only [Nat.reduceSub] at e10
  simp only [lay, Act.put, List.getElem?_toArray, List.getElem?_cons_succ, List.getElem?_cons_zero, Option.bind_some, List.setIfInBounds_toArray, List.set_cons_succ, List.set_cons_zero]
  generalize vs 0 = v0, vs 1 = v1, vs 2 = v2, vs 3 = v3, vs 4 = v4, vs 5 = v5, vs 6 = v6, vs 7 = v7, vs 8 = v8, vs 9 = v9
  generalize vs 10 = v10 at *
  subst e10
  obtain ⟨hc, hf, hz⟩ := bcell hG
  go_wp2
  go_ret
  exact ⟨rfl, (bgr (((Below.refl _ _).alloc (by first | (simp <;> omega) | omega) _).alloc (by first | (simp <;> omega) | omega) _) (by first | (simp <;> omega) | omega) hG)⟩
theorem tooNear_far (n f : Int) (lo hi plo phi : Int) (sl : Bool) (w : World) (b : -10000 ≤ (ovl (lo, hi) (0, 2000)).1 ∧ (ovl (lo, hi) (0, 2000)).1 ≤ 10000 ∧ -10000 ≤ (ovl (lo, hi) (0, 2000)).2 ∧ (ovl (lo, hi) (0, 2000)).2 ≤ 10000) (h4 : 0 ≤ n) (h5 : n ≤ 1073741824) (h6 : 0 ≤ f) (h7 : f ≤ 1073741824) (hlo : decide (2000 < lo) = false) :
    Calls Tryz.prog 144 #[.agg #[.iface 196 (.agg #[.int .i64 n, .int .i64 f]), .int .i64 lo, .int .i64 hi, .bool sl], .agg #[.int .i64 plo, .int .i64 phi]] w fun e w' => e = .returned (.bool (decide (phi < (ovl (lo, hi) (0, 2000)).1 * n))) ∧ Below w.heap.size w w' := by
  obtain ⟨b0, b1, b2, b3⟩ := b
  have hme := fun w => me_far_powers n f w
  have hfd0 := @fld23_0
  have hfd1 := @fld23_1
  go_enter Tryz.func144, Tryz.ntmps144
  go_wp2
  refine region2 17 ?_ ?_ ?_
  · kernel_rfl
  · kernel_rfl
  simp only [List.take_succ_cons, List.take_zero, List.drop_succ_cons, List.drop_zero]
  apply ceq (D := [(2, none)]) rfl (by kernel_rfl)
  · intro ρ W ⟨p1,p2,p3⟩ hG hF K hK; (try simp [FD] at hF); have ⟨hc, hf, hz⟩ := bcell hG; go_simp; exact hK _ gv
  apply ceq (D := [(5, some 0)]) rfl (by kernel_rfl)
  · intro ρ W ⟨p1,p2,p3⟩ hG hF K hK; (try simp [FD] at hF); have ⟨hc, hf, hz⟩ := bcell hG; go_simp; exact hK _ gv
  apply ceq (D := [(6, some 0)]) rfl (by kernel_rfl)
  · intro ρ W ⟨p1,p2,p3⟩ hG hF K hK; (try simp [FD] at hF); have ⟨hc, hf, hz⟩ := bcell hG; go_simp; exact hK _ gv
  apply ceq (D := [(7, some 0)]) rfl (by kernel_rfl)
  · intro ρ W ⟨p1,p2,p3⟩ hG hF K hK; (try simp [FD] at hF); have ⟨hc, hf, hz⟩ := bcell hG; go_simp; exact hK _ gv
  apply ceq (D := [(8, some 0)]) rfl (by kernel_rfl)
  · intro ρ W ⟨p1,p2,p3⟩ hG hF K hK; (try simp [FD] at hF); have ⟨hc, hf, hz⟩ := bcell hG; go_simp; exact hK _ gv
  apply clq (D := [(2, none), (9, some 0)]) (by kernel_rfl)
  · intro ρ W hF; (try simp [FD] at hF); simp [Lets, *]
  · intro ρ W ⟨p1,p2,p3⟩ hG hF K hK; (try simp [FD] at hF); have ⟨hc, hf, hz⟩ := bcell hG; go_simp; exact hK _ gv
  apply clq (D := [(10, some 0), (9, some 1)]) (by kernel_rfl)
  · intro ρ W hF; (try simp [FD] at hF); simp [Lets, *]
  · intro ρ W ⟨p1,p2,p3⟩ hG hF K hK; (try simp [FD] at hF); have ⟨hc, hf, hz⟩ := bcell hG; go_simp; exact hK _ gv
  apply clq (D := [(2, none), (9, some 2)]) (by kernel_rfl)
  · intro ρ W hF; (try simp [FD] at hF); simp [Lets, *]
  · intro ρ W ⟨p1,p2,p3⟩ hG hF K hK; (try simp [FD] at hF); have ⟨hc, hf, hz⟩ := bcell hG; go_simp; exact hK _ gv
  apply clq (D := [(12, some 0), (9, some 3)]) (by kernel_rfl)
  · intro ρ W hF; (try simp [FD] at hF); simp [Lets, *]
  · intro ρ W ⟨p1,p2,p3⟩ hG hF K hK; (try simp [FD] at hF); have ⟨hc, hf, hz⟩ := bcell hG; go_simp; exact hK _ (gc (steady_any _ _ _ _ _))
  apply clq (D := [(11, some 2), (9, some 4)]) (by kernel_rfl)
  · intro ρ W hF; (try simp [FD] at hF); simp [Lets, *]
  · intro ρ W ⟨p1,p2,p3⟩ hG hF K hK; (try simp [FD] at hF); have ⟨hc, hf, hz⟩ := bcell hG; go_simp; exact hK _ gv
  apply clq (D := [(11, some 3), (9, some 5)]) (by kernel_rfl)
  · intro ρ W hF; (try simp [FD] at hF); simp [Lets, *]
  · intro ρ W ⟨p1,p2,p3⟩ hG hF K hK; (try simp [FD] at hF); have ⟨hc, hf, hz⟩ := bcell hG; go_simp; exact hK _ gv
  apply clq (D := [(15, some 0), (13, some 2), (9, some 6)]) (by kernel_rfl)
  · intro ρ W hF; (try simp [FD] at hF); simp [Lets, *]
  · intro ρ W ⟨p1,p2,p3⟩ hG hF K hK; (try simp [FD] at hF); have ⟨hc, hf, hz⟩ := bcell hG; go_simp; exact hK _ (gc (farPowers_any _ _ _ _ _ b0 b1 b2 b3 h4 h5 h6 h7))
  apply clq (D := [(16, some 0), (9, some 7)]) (by kernel_rfl)
  · intro ρ W hF; (try simp [FD] at hF); simp [Lets, *]
  · intro ρ W ⟨p1,p2,p3⟩ hG hF K hK; (try simp [FD] at hF); have ⟨hc, hf, hz⟩ := bcell hG; go_simp; exact hK _ gv
  apply clq (D := [(3, none), (9, some 8)]) (by kernel_rfl)
  · intro ρ W hF; (try simp [FD] at hF); simp [Lets, *]
  · intro ρ W ⟨p1,p2,p3⟩ hG hF K hK; (try simp [FD] at hF); have ⟨hc, hf, hz⟩ := bcell hG; go_simp; exact hK _ gv
  apply clq (D := [(18, some 0), (9, some 9)]) (by kernel_rfl)
  · intro ρ W hF; (try simp [FD] at hF); simp [Lets, *]
  · intro ρ W ⟨p1,p2,p3⟩ hG hF K hK; (try simp [FD] at hF); have ⟨hc, hf, hz⟩ := bcell hG; go_simp; exact hK _ gv
  apply clq (D := [(17, some 2), (19, some 0), (9, some 10)]) (by kernel_rfl)
  · intro ρ W hF; (try simp [FD] at hF); simp [Lets, *]
  · intro ρ W ⟨p1,p2,p3⟩ hG hF K hK; (try simp [FD] at hF); have ⟨hc, hf, hz⟩ := bcell hG; go_simp; exact hK _ gv
  apply ceq (D := [(9, some 11), (20, some 0)]) rfl (by kernel_rfl)
  · intro ρ W ⟨p1,p2,p3⟩ hG hF K hK; (try simp [FD] at hF); have ⟨hc, hf, hz⟩ := bcell hG; go_simp; exact hK _ gv
  refine cdn ?_
  intro vs W hG hV
  obtain ⟨e16, -⟩ := hV
  simp only [Nat.reduceSub] at e16
  simp only [lay, Act.put, List.getElem?_toArray, List.getElem?_cons_succ, List.getElem?_cons_zero, Option.bind_some, List.setIfInBounds_toArray, List.set_cons_succ, List.set_cons_zero]
  generalize vs 0 = v0, vs 1 = v1, vs 2 = v2, vs 3 = v3, vs 4 = v4, vs 5 = v5, vs 6 = v6, vs 7 = v7, vs 8 = v8, vs 9 = v9, vs 10 = v10, vs 11 = v11, vs 12 = v12, vs 13 = v13, vs 14 = v14, vs 15 = v15
  generalize vs 16 = v16 at *
  subst e16
  obtain ⟨hc, hf, hz⟩ := bcell hG
  go_wp2
  go_ret
  exact ⟨rfl, (bgr (((Below.refl _ _).alloc (by first | (simp <;> omega) | omega) _).alloc (by first | (simp <;> omega) | omega) _) (by first | (simp <;> omega) | omega) hG)⟩
theorem tooNear_yes (wit : Value) (lo hi plo phi : Int) (sl : Bool) (w : World) (hlo : decide (2000 < lo) = true) :
    Calls Tryz.prog 144 #[.agg #[wit, .int .i64 lo, .int .i64 hi, .bool sl], .agg #[.int .i64 plo, .int .i64 phi]] w fun e w' => e = .returned (.bool true) ∧ Below w.heap.size w w' := by
  go_enter Tryz.func144, Tryz.ntmps144
  go_wp2
  refine region2 17 ?_ ?_ ?_
  · kernel_rfl
  · kernel_rfl
  simp only [List.take_succ_cons, List.take_zero, List.drop_succ_cons, List.drop_zero]
  apply ceq (D := [(2, none)]) rfl (by kernel_rfl)
  · intro ρ W ⟨p1,p2,p3⟩ hG hF K hK; (try simp [FD] at hF); have ⟨hc, hf, hz⟩ := bcell hG; go_simp; exact hK _ gv
  apply ceq (D := [(5, some 0)]) rfl (by kernel_rfl)
  · intro ρ W ⟨p1,p2,p3⟩ hG hF K hK; (try simp [FD] at hF); have ⟨hc, hf, hz⟩ := bcell hG; go_simp; exact hK _ gv
  apply ceq (D := [(6, some 0)]) rfl (by kernel_rfl)
  · intro ρ W ⟨p1,p2,p3⟩ hG hF K hK; (try simp [FD] at hF); have ⟨hc, hf, hz⟩ := bcell hG; go_simp; exact hK _ gv
  apply ceq (D := [(7, some 0)]) rfl (by kernel_rfl)
  · intro ρ W ⟨p1,p2,p3⟩ hG hF K hK; (try simp [FD] at hF); have ⟨hc, hf, hz⟩ := bcell hG; go_simp; exact hK _ gv
  apply ceq (D := [(8, some 0)]) rfl (by kernel_rfl)
  · intro ρ W ⟨p1,p2,p3⟩ hG hF K hK; (try simp [FD] at hF); have ⟨hc, hf, hz⟩ := bcell hG; go_simp; exact hK _ gv
  refine csk (D := [(2, none), (9, some 0)]) (by kernel_rfl) ?_ ?_
  · intro ρ W hF; (try simp [FD] at hF); simp [Lets, *]
  refine csk (D := [(10, some 0), (9, some 1)]) (by kernel_rfl) ?_ ?_
  · intro ρ W hF; (try simp [FD] at hF); simp [Lets, *]
  refine csk (D := [(2, none), (9, some 2)]) (by kernel_rfl) ?_ ?_
  · intro ρ W hF; (try simp [FD] at hF); simp [Lets, *]
  refine csk (D := [(12, some 0), (9, some 3)]) (by kernel_rfl) ?_ ?_
  · intro ρ W hF; (try simp [FD] at hF); simp [Lets, *]
  refine csk (D := [(11, some 2), (9, some 4)]) (by kernel_rfl) ?_ ?_
  · intro ρ W hF; (try simp [FD] at hF); simp [Lets, *]
  refine csk (D := [(11, some 3), (9, some 5)]) (by kernel_rfl) ?_ ?_
  · intro ρ W hF; (try simp [FD] at hF); simp [Lets, *]
  refine csk (D := [(15, some 0), (13, some 2), (9, some 6)]) (by kernel_rfl) ?_ ?_
  · intro ρ W hF; (try simp [FD] at hF); simp [Lets, *]
  refine csk (D := [(16, some 0), (9, some 7)]) (by kernel_rfl) ?_ ?_
  · intro ρ W hF; (try simp [FD] at hF); simp [Lets, *]
  refine csk (D := [(3, none), (9, some 8)]) (by kernel_rfl) ?_ ?_
  · intro ρ W hF; (try simp [FD] at hF); simp [Lets, *]
  refine csk (D := [(18, some 0), (9, some 9)]) (by kernel_rfl) ?_ ?_
  · intro ρ W hF; (try simp [FD] at hF); simp [Lets, *]
  refine csk (D := [(17, some 2), (19, some 0), (9, some 10)]) (by kernel_rfl) ?_ ?_
  · intro ρ W hF; (try simp [FD] at hF); simp [Lets, *]
  apply ceq (D := [(9, some 11), (20, some 0)]) rfl (by kernel_rfl)
  · intro ρ W ⟨p1,p2,p3⟩ hG hF K hK; (try simp [FD] at hF); have ⟨hc, hf, hz⟩ := bcell hG; go_simp; exact hK _ gv
  refine cdn ?_
  intro vs W hG hV
  obtain ⟨e16, -⟩ := hV
  simp only [Nat.reduceSub] at e16
  simp only [lay, Act.put, List.getElem?_toArray, List.getElem?_cons_succ, List.getElem?_cons_zero, Option.bind_some, List.setIfInBounds_toArray, List.set_cons_succ, List.set_cons_zero]
  generalize vs 0 = v0, vs 1 = v1, vs 2 = v2, vs 3 = v3, vs 4 = v4, vs 5 = v5, vs 6 = v6, vs 7 = v7, vs 8 = v8, vs 9 = v9, vs 10 = v10, vs 11 = v11, vs 12 = v12, vs 13 = v13, vs 14 = v14, vs 15 = v15
  generalize vs 16 = v16 at *
  subst e16
  obtain ⟨hc, hf, hz⟩ := bcell hG
  go_wp2
  go_ret
  exact ⟨rfl, (bgr (((Below.refl _ _).alloc (by first | (simp <;> omega) | omega) _).alloc (by first | (simp <;> omega) | omega) _) (by first | (simp <;> omega) | omega) hG)⟩
end Go.Proofs.YtcngaohfemdfjaaGreat
