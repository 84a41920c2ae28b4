import Derived.Test.YtcngaohfemdfjaaGreatE05
set_option linter.unusedVariables false
set_option linter.unusedSimpArgs false
set_option maxRecDepth 100000
set_option maxHeartbeats 60000000
namespace Go.Proofs.YtcngaohfemdfjaaGreat
open Go.RowKit
theorem valid_6 (k : Cd) (w : World) (h0 : (decide (1 ≤ k.half) && decide (k.half ≤ 4000)) = true) (h1 : (decide (1 ≤ k.step) && decide (k.step ≤ 100)) = true) (h2 : (decide (0 ≤ k.cuts) && decide (k.cuts ≤ 40)) = true) (h3 : (decide (1 ≤ k.elo)) = true) (h4 : (decide (k.elo ≤ k.ehi)) = true) (h5 : (decide (k.ehi ≤ 10000)) = true) (h6 : (decide (0 ≤ k.prism) && decide (k.prism ≤ 10000)) = false) :
    Calls Tryz.prog 89 #[.agg k.cs.toArray] w fun e w' => e = .returned (.bool false) ∧ Below w.heap.size w w' := by
  have I0 := Lib.hid (fun w => minside_is h0 w)
  clear h0
  have I1 := Lib.hid (fun w => minside_is h1 w)
  clear h1
  have I2 := Lib.hid (fun w => minside_is h2 w)
  clear h2
  have I6 := Lib.hid (fun w => minside_is h6 w)
  clear h6
  have e8 : k.cs[8]? = some (.int .i64 k.half) := rfl
  have e9 : k.cs[9]? = some (.int .i64 k.step) := rfl
  have e10 : k.cs[10]? = some (.int .i64 k.cuts) := rfl
  have e11 : k.cs[11]? = some (.int .i64 k.elo) := rfl
  have e12 : k.cs[12]? = some (.int .i64 k.ehi) := rfl
  have e13 : k.cs[13]? = some (.int .i64 k.prism) := rfl
  have e14 : k.cs[14]? = some (.int .i64 k.squeeze) := rfl
  have e15 : k.cs[15]? = some (.int .i64 k.front) := rfl
  have e16 : k.cs[16]? = some (.int .i64 k.deep) := rfl
  go_enter Tryz.func89, Tryz.ntmps89
  go_wp2_with (go_at_call 58; refine (mspan_any _ _ _).mono ?_; rintro e w1 ⟨rfl, hb1⟩)
  have HG := Lib.hid (show Gr w (w1.alloc (Obj.cells #[.int .i64 0, .int .i64 10000] 23)) from ((Gr.alloc _ _).tr hb1).tr (Gr.alloc _ _))
  have hB1 : Box (w1.alloc (Obj.cells #[.int .i64 0, .int .i64 10000] 23)) w.heap.size k.cs 28 := ((Box.fresh w k.cs 28).grow hb1).grow (Gr.alloc _ _)
  have hB2 : Box (w1.alloc (Obj.cells #[.int .i64 0, .int .i64 10000] 23)) w1.heap.size [.int .i64 0, .int .i64 10000] 23 := Box.fresh _ _ _
  generalize w1.alloc (Obj.cells #[.int .i64 0, .int .i64 10000] 23) = Wb at *
  have c8 := hB1.cell e8
  have c9 := hB1.cell e9
  have c10 := hB1.cell e10
  have c11 := hB1.cell e11
  have c12 := hB1.cell e12
  have c13 := hB1.cell e13
  have c14 := hB1.cell e14
  have c15 := hB1.cell e15
  have c16 := hB1.cell e16
  obtain ⟨t0, t1, -, -, tl⟩ := hB2.two
  have kl := hB1.lt
  clear hB1 hB2 hb1 e8 e9 e10 e11 e12 e13 e14 e15 e16
  refine region2 61 ?_ ?_ ?_
  · kernel_rfl
  · kernel_rfl
  simp only [List.take_succ_cons, List.take_zero, List.drop_succ_cons, List.drop_zero]
  apply ceq (D := [(1, none)]) rfl (by kernel_rfl)
  · intro ρ W ⟨p1,p2,p3⟩ hG hF K hK; (try simp [FD] at hF); have ⟨hc, hf, hz⟩ := bdr hG; go_simp; exact hK _ gv
  apply ceq (D := [(5, some 0)]) rfl (by kernel_rfl)
  · intro ρ W ⟨p1,p2,p3⟩ hG hF K hK; (try simp [FD] at hF); have ⟨hc, hf, hz⟩ := bdr hG; go_simp; exact hK _ gv
  apply ceq (D := []) rfl (by kernel_rfl)
  · intro ρ W ⟨p1,p2,p3⟩ hG hF K hK; (try simp [FD] at hF); have ⟨hc, hf, hz⟩ := bdr hG; go_simp; exact hK _ (gc (mspan_any _ _ _))
  apply ceq (D := [(6, some 1), (7, some 0)]) rfl (by kernel_rfl)
  · intro ρ W ⟨p1,p2,p3⟩ hG hF K hK; (try simp [FD] at hF); have ⟨hc, hf, hz⟩ := bdr hG; go_simp; exact hK _ (gc (I0.out _))
  apply ceq (D := [(8, some 0)]) rfl (by kernel_rfl)
  · intro ρ W ⟨p1,p2,p3⟩ hG hF K hK; (try simp [FD] at hF); have ⟨hc, hf, hz⟩ := bdr hG; go_simp; exact hK _ gv
  apply clq (D := [(1, none), (9, some 0)]) (by kernel_rfl)
  · intro ρ W hF; (try simp [FD] at hF); simp [Lets, *]
  · intro ρ W ⟨p1,p2,p3⟩ hG hF K hK; (try simp [FD] at hF); have ⟨hc, hf, hz⟩ := bdr hG; go_simp; exact hK _ gv
  apply clq (D := [(10, some 0), (9, some 1)]) (by kernel_rfl)
  · intro ρ W hF; (try simp [FD] at hF); simp [Lets, *]
  · intro ρ W ⟨p1,p2,p3⟩ hG hF K hK; (try simp [FD] at hF); have ⟨hc, hf, hz⟩ := bdr hG; go_simp; exact hK _ gv
  apply clq (D := [(9, some 2)]) (by kernel_rfl)
  · intro ρ W hF; (try simp [FD] at hF); simp [Lets, *]
  · intro ρ W ⟨p1,p2,p3⟩ hG hF K hK; (try simp [FD] at hF); have ⟨hc, hf, hz⟩ := bdr hG; go_simp; exact hK _ (gc (mspan_any _ _ _))
  apply clq (D := [(11, some 1), (12, some 0), (9, some 3)]) (by kernel_rfl)
  · intro ρ W hF; (try simp [FD] at hF); simp [Lets, *]
  · intro ρ W ⟨p1,p2,p3⟩ hG hF K hK; (try simp [FD] at hF); have ⟨hc, hf, hz⟩ := bdr hG; go_simp; exact hK _ (gc (I1.out _))
  apply ceq (D := [(9, some 4), (13, some 0)]) rfl (by kernel_rfl)
  · intro ρ W ⟨p1,p2,p3⟩ hG hF K hK; (try simp [FD] at hF); have ⟨hc, hf, hz⟩ := bdr hG; go_simp; exact hK _ gv
  apply ceq (D := [(14, some 0)]) rfl (by kernel_rfl)
  · intro ρ W ⟨p1,p2,p3⟩ hG hF K hK; (try simp [FD] at hF); have ⟨hc, hf, hz⟩ := bdr hG; go_simp; exact hK _ gv
  apply clq (D := [(1, none), (15, some 0)]) (by kernel_rfl)
  · intro ρ W hF; (try simp [FD] at hF); simp [Lets, *]
  · intro ρ W ⟨p1,p2,p3⟩ hG hF K hK; (try simp [FD] at hF); have ⟨hc, hf, hz⟩ := bdr hG; go_simp; exact hK _ gv
  apply clq (D := [(16, some 0), (15, some 1)]) (by kernel_rfl)
  · intro ρ W hF; (try simp [FD] at hF); simp [Lets, *]
  · intro ρ W ⟨p1,p2,p3⟩ hG hF K hK; (try simp [FD] at hF); have ⟨hc, hf, hz⟩ := bdr hG; go_simp; exact hK _ gv
  apply clq (D := [(15, some 2)]) (by kernel_rfl)
  · intro ρ W hF; (try simp [FD] at hF); simp [Lets, *]
  · intro ρ W ⟨p1,p2,p3⟩ hG hF K hK; (try simp [FD] at hF); have ⟨hc, hf, hz⟩ := bdr hG; go_simp; exact hK _ (gc (mspan_any _ _ _))
  apply clq (D := [(17, some 1), (18, some 0), (15, some 3)]) (by kernel_rfl)
  · intro ρ W hF; (try simp [FD] at hF); simp [Lets, *]
  · intro ρ W ⟨p1,p2,p3⟩ hG hF K hK; (try simp [FD] at hF); have ⟨hc, hf, hz⟩ := bdr hG; go_simp; exact hK _ (gc (I2.out _))
  apply ceq (D := [(15, some 4), (19, some 0)]) rfl (by kernel_rfl)
  · intro ρ W ⟨p1,p2,p3⟩ hG hF K hK; (try simp [FD] at hF); have ⟨hc, hf, hz⟩ := bdr hG; go_simp; exact hK _ gv
  apply ceq (D := [(20, some 0)]) rfl (by kernel_rfl)
  · intro ρ W ⟨p1,p2,p3⟩ hG hF K hK; (try simp [FD] at hF); have ⟨hc, hf, hz⟩ := bdr hG; go_simp; exact hK _ gv
  apply clq (D := [(1, none), (21, some 0)]) (by kernel_rfl)
  · intro ρ W hF; (try simp [FD] at hF); simp [Lets, *]
  · intro ρ W ⟨p1,p2,p3⟩ hG hF K hK; (try simp [FD] at hF); have ⟨hc, hf, hz⟩ := bdr hG; go_simp; exact hK _ gv
  apply clq (D := [(22, some 0), (21, some 1)]) (by kernel_rfl)
  · intro ρ W hF; (try simp [FD] at hF); simp [Lets, *]
  · intro ρ W ⟨p1,p2,p3⟩ hG hF K hK; (try simp [FD] at hF); have ⟨hc, hf, hz⟩ := bdr hG; go_simp; exact hK _ gv
  apply clq (D := [(23, some 0), (21, some 2)]) (by kernel_rfl)
  · intro ρ W hF; (try simp [FD] at hF); simp [Lets, *]
  · intro ρ W ⟨p1,p2,p3⟩ hG hF K hK; (try simp [FD] at hF); have ⟨hc, hf, hz⟩ := bdr hG; go_simp; exact hK _ gv
  apply clq (D := [(24, some 0), (21, some 3)]) (by kernel_rfl)
  · intro ρ W hF; (try simp [FD] at hF); simp [Lets, *]
  · intro ρ W ⟨p1,p2,p3⟩ hG hF K hK; (try simp [FD] at hF); have ⟨hc, hf, hz⟩ := bdr hG; go_simp; exact hK _ gv
  apply ceq (D := [(21, some 4), (25, some 0)]) rfl (by kernel_rfl)
  · intro ρ W ⟨p1,p2,p3⟩ hG hF K hK; (try simp [FD] at hF); have ⟨hc, hf, hz⟩ := bdr hG; go_simp; exact hK _ gv
  apply ceq (D := [(26, some 0)]) rfl (by kernel_rfl)
  · intro ρ W ⟨p1,p2,p3⟩ hG hF K hK; (try simp [FD] at hF); have ⟨hc, hf, hz⟩ := bdr hG; go_simp; exact hK _ gv
  apply clq (D := [(1, none), (27, some 0)]) (by kernel_rfl)
  · intro ρ W hF; (try simp [FD] at hF); simp [Lets, *]
  · intro ρ W ⟨p1,p2,p3⟩ hG hF K hK; (try simp [FD] at hF); have ⟨hc, hf, hz⟩ := bdr hG; go_simp; exact hK _ gv
  apply clq (D := [(28, some 0), (27, some 1)]) (by kernel_rfl)
  · intro ρ W hF; (try simp [FD] at hF); simp [Lets, *]
  · intro ρ W ⟨p1,p2,p3⟩ hG hF K hK; (try simp [FD] at hF); have ⟨hc, hf, hz⟩ := bdr hG; go_simp; exact hK _ gv
  apply clq (D := [(29, some 0), (27, some 2)]) (by kernel_rfl)
  · intro ρ W hF; (try simp [FD] at hF); simp [Lets, *]
  · intro ρ W ⟨p1,p2,p3⟩ hG hF K hK; (try simp [FD] at hF); have ⟨hc, hf, hz⟩ := bdr hG; go_simp; exact hK _ gv
  apply clq (D := [(1, none), (27, some 3)]) (by kernel_rfl)
  · intro ρ W hF; (try simp [FD] at hF); simp [Lets, *]
  · intro ρ W ⟨p1,p2,p3⟩ hG hF K hK; (try simp [FD] at hF); have ⟨hc, hf, hz⟩ := bdr hG; go_simp; exact hK _ gv
  apply clq (D := [(31, some 0), (27, some 4)]) (by kernel_rfl)
  · intro ρ W hF; (try simp [FD] at hF); simp [Lets, *]
  · intro ρ W ⟨p1,p2,p3⟩ hG hF K hK; (try simp [FD] at hF); have ⟨hc, hf, hz⟩ := bdr hG; go_simp; exact hK _ gv
  apply clq (D := [(32, some 0), (27, some 5)]) (by kernel_rfl)
  · intro ρ W hF; (try simp [FD] at hF); simp [Lets, *]
  · intro ρ W ⟨p1,p2,p3⟩ hG hF K hK; (try simp [FD] at hF); have ⟨hc, hf, hz⟩ := bdr hG; go_simp; exact hK _ gv
  apply clq (D := [(30, some 3), (33, some 0), (27, some 6)]) (by kernel_rfl)
  · intro ρ W hF; (try simp [FD] at hF); simp [Lets, *]
  · intro ρ W ⟨p1,p2,p3⟩ hG hF K hK; (try simp [FD] at hF); have ⟨hc, hf, hz⟩ := bdr hG; go_simp; exact hK _ gv
  apply ceq (D := [(27, some 7), (34, some 0)]) rfl (by kernel_rfl)
  · intro ρ W ⟨p1,p2,p3⟩ hG hF K hK; (try simp [FD] at hF); have ⟨hc, hf, hz⟩ := bdr hG; go_simp; exact hK _ gv
  apply ceq (D := [(35, some 0)]) rfl (by kernel_rfl)
  · intro ρ W ⟨p1,p2,p3⟩ hG hF K hK; (try simp [FD] at hF); have ⟨hc, hf, hz⟩ := bdr hG; go_simp; exact hK _ gv
  apply clq (D := [(1, none), (36, some 0)]) (by kernel_rfl)
  · intro ρ W hF; (try simp [FD] at hF); simp [Lets, *]
  · intro ρ W ⟨p1,p2,p3⟩ hG hF K hK; (try simp [FD] at hF); have ⟨hc, hf, hz⟩ := bdr hG; go_simp; exact hK _ gv
  apply clq (D := [(37, some 0), (36, some 1)]) (by kernel_rfl)
  · intro ρ W hF; (try simp [FD] at hF); simp [Lets, *]
  · intro ρ W ⟨p1,p2,p3⟩ hG hF K hK; (try simp [FD] at hF); have ⟨hc, hf, hz⟩ := bdr hG; go_simp; exact hK _ gv
  apply clq (D := [(38, some 0), (36, some 2)]) (by kernel_rfl)
  · intro ρ W hF; (try simp [FD] at hF); simp [Lets, *]
  · intro ρ W ⟨p1,p2,p3⟩ hG hF K hK; (try simp [FD] at hF); have ⟨hc, hf, hz⟩ := bdr hG; go_simp; exact hK _ gv
  apply clq (D := [(39, some 0), (36, some 3)]) (by kernel_rfl)
  · intro ρ W hF; (try simp [FD] at hF); simp [Lets, *]
  · intro ρ W ⟨p1,p2,p3⟩ hG hF K hK; (try simp [FD] at hF); have ⟨hc, hf, hz⟩ := bdr hG; go_simp; exact hK _ gv
  apply ceq (D := [(36, some 4), (40, some 0)]) rfl (by kernel_rfl)
  · intro ρ W ⟨p1,p2,p3⟩ hG hF K hK; (try simp [FD] at hF); have ⟨hc, hf, hz⟩ := bdr hG; go_simp; exact hK _ gv
  apply ceq (D := [(41, some 0)]) rfl (by kernel_rfl)
  · intro ρ W ⟨p1,p2,p3⟩ hG hF K hK; (try simp [FD] at hF); have ⟨hc, hf, hz⟩ := bdr hG; go_simp; exact hK _ gv
  apply clq (D := [(1, none), (42, some 0)]) (by kernel_rfl)
  · intro ρ W hF; (try simp [FD] at hF); simp [Lets, *]
  · intro ρ W ⟨p1,p2,p3⟩ hG hF K hK; (try simp [FD] at hF); have ⟨hc, hf, hz⟩ := bdr hG; go_simp; exact hK _ gv
  apply clq (D := [(43, some 0), (42, some 1)]) (by kernel_rfl)
  · intro ρ W hF; (try simp [FD] at hF); simp [Lets, *]
  · intro ρ W ⟨p1,p2,p3⟩ hG hF K hK; (try simp [FD] at hF); have ⟨hc, hf, hz⟩ := bdr hG; go_simp; exact hK _ gv
  apply clq (D := [(3, none), (42, some 2)]) (by kernel_rfl)
  · intro ρ W hF; (try simp [FD] at hF); simp [Lets, *]
  · intro ρ W ⟨p1,p2,p3⟩ hG hF K hK; (try simp [FD] at hF); have ⟨hc, hf, hz⟩ := bdr hG; go_simp; exact hK _ gv
  apply clq (D := [(44, some 1), (45, some 0), (42, some 3)]) (by kernel_rfl)
  · intro ρ W hF; (try simp [FD] at hF); simp [Lets, *]
  · intro ρ W ⟨p1,p2,p3⟩ hG hF K hK; (try simp [FD] at hF); have ⟨hc, hf, hz⟩ := bdr hG; go_simp; exact hK _ (gc (I6.out _))
  apply ceq (D := [(42, some 4), (46, some 0)]) rfl (by kernel_rfl)
  · intro ρ W ⟨p1,p2,p3⟩ hG hF K hK; (try simp [FD] at hF); have ⟨hc, hf, hz⟩ := bdr hG; go_simp; exact hK _ gv
  apply ceq (D := [(47, some 0)]) rfl (by kernel_rfl)
  · intro ρ W ⟨p1,p2,p3⟩ hG hF K hK; (try simp [FD] at hF); have ⟨hc, hf, hz⟩ := bdr hG; go_simp; exact hK _ gv
  refine csk (D := [(1, none), (48, some 0)]) (by kernel_rfl) ?_ ?_
  · intro ρ W hF; (try simp [FD] at hF); simp [Lets, *]
  refine csk (D := [(49, some 0), (48, some 1)]) (by kernel_rfl) ?_ ?_
  · intro ρ W hF; (try simp [FD] at hF); simp [Lets, *]
  refine csk (D := [(3, none), (48, some 2)]) (by kernel_rfl) ?_ ?_
  · intro ρ W hF; (try simp [FD] at hF); simp [Lets, *]
  refine csk (D := [(50, some 1), (51, some 0), (48, some 3)]) (by kernel_rfl) ?_ ?_
  · intro ρ W hF; (try simp [FD] at hF); simp [Lets, *]
  apply ceq (D := [(48, some 4), (52, some 0)]) rfl (by kernel_rfl)
  · intro ρ W ⟨p1,p2,p3⟩ hG hF K hK; (try simp [FD] at hF); have ⟨hc, hf, hz⟩ := bdr hG; go_simp; exact hK _ gv
  apply ceq (D := [(53, some 0)]) rfl (by kernel_rfl)
  · intro ρ W ⟨p1,p2,p3⟩ hG hF K hK; (try simp [FD] at hF); have ⟨hc, hf, hz⟩ := bdr hG; go_simp; exact hK _ gv
  refine csk (D := [(1, none), (54, some 0)]) (by kernel_rfl) ?_ ?_
  · intro ρ W hF; (try simp [FD] at hF); simp [Lets, *]
  refine csk (D := [(55, some 0), (54, some 1)]) (by kernel_rfl) ?_ ?_
  · intro ρ W hF; (try simp [FD] at hF); simp [Lets, *]
  refine csk (D := [(3, none), (54, some 2)]) (by kernel_rfl) ?_ ?_
  · intro ρ W hF; (try simp [FD] at hF); simp [Lets, *]
  refine csk (D := [(56, some 1), (57, some 0), (54, some 3)]) (by kernel_rfl) ?_ ?_
  · intro ρ W hF; (try simp [FD] at hF); simp [Lets, *]
  apply ceq (D := [(54, some 4), (58, some 0)]) rfl (by kernel_rfl)
  · intro ρ W ⟨p1,p2,p3⟩ hG hF K hK; (try simp [FD] at hF); have ⟨hc, hf, hz⟩ := bdr hG; go_simp; exact hK _ gv
  apply ceq (D := [(59, some 0)]) rfl (by kernel_rfl)
  · intro ρ W ⟨p1,p2,p3⟩ hG hF K hK; (try simp [FD] at hF); have ⟨hc, hf, hz⟩ := bdr hG; go_simp; exact hK _ gv
  refine csk (D := [(1, none), (60, some 0)]) (by kernel_rfl) ?_ ?_
  · intro ρ W hF; (try simp [FD] at hF); simp [Lets, *]
  refine csk (D := [(61, some 0), (60, some 1)]) (by kernel_rfl) ?_ ?_
  · intro ρ W hF; (try simp [FD] at hF); simp [Lets, *]
  refine csk (D := [(3, none), (60, some 2)]) (by kernel_rfl) ?_ ?_
  · intro ρ W hF; (try simp [FD] at hF); simp [Lets, *]
  refine csk (D := [(62, some 1), (63, some 0), (60, some 3)]) (by kernel_rfl) ?_ ?_
  · intro ρ W hF; (try simp [FD] at hF); simp [Lets, *]
  apply ceq (D := [(60, some 4), (64, some 0)]) rfl (by kernel_rfl)
  · intro ρ W ⟨p1,p2,p3⟩ hG hF K hK; (try simp [FD] at hF); have ⟨hc, hf, hz⟩ := bdr hG; go_simp; exact hK _ gv
  refine cdn ?_
  intro vs W hG hV
  obtain ⟨e60, -⟩ := hV
  simp only [Nat.reduceSub] at e60
  set_option maxRecDepth 100000 in
  simp only [lay, Act.put, List.getElem?_toArray, List.getElem?_cons_succ, List.getElem?_cons_zero, Option.bind_some, List.setIfInBounds_toArray, List.set_cons_succ, List.set_cons_zero]
  generalize vs 0 = v0, vs 1 = v1, vs 2 = v2, vs 3 = v3, vs 4 = v4, vs 5 = v5, vs 6 = v6, vs 7 = v7, vs 8 = v8, vs 9 = v9, vs 10 = v10, vs 11 = v11, vs 12 = v12, vs 13 = v13, vs 14 = v14, vs 15 = v15, vs 16 = v16, vs 17 = v17, vs 18 = v18, vs 19 = v19, vs 20 = v20, vs 21 = v21, vs 22 = v22, vs 23 = v23, vs 24 = v24, vs 25 = v25, vs 26 = v26, vs 27 = v27, vs 28 = v28, vs 29 = v29, vs 30 = v30, vs 31 = v31, vs 32 = v32, vs 33 = v33, vs 34 = v34, vs 35 = v35, vs 36 = v36, vs 37 = v37, vs 38 = v38, vs 39 = v39, vs 40 = v40, vs 41 = v41, vs 42 = v42, vs 43 = v43, vs 44 = v44, vs 45 = v45, vs 46 = v46, vs 47 = v47, vs 48 = v48, vs 49 = v49, vs 50 = v50, vs 51 = v51, vs 52 = v52, vs 53 = v53, vs 54 = v54, vs 55 = v55, vs 56 = v56, vs 57 = v57, vs 58 = v58, vs 59 = v59
  generalize vs 60 = v60 at *
  subst e60
  obtain ⟨hc, hf, hz⟩ := bcell hG
  go_wp2
  go_ret
  exact ⟨rfl, (show Gr w Wb from HG.out).trans (Below.mono hG (show Gr w Wb from HG.out).size)⟩
theorem valid_5 (k : Cd) (w : World) (h0 : (decide (1 ≤ k.half) && decide (k.half ≤ 4000)) = true) (h1 : (decide (1 ≤ k.step) && decide (k.step ≤ 100)) = true) (h2 : (decide (0 ≤ k.cuts) && decide (k.cuts ≤ 40)) = true) (h3 : (decide (1 ≤ k.elo)) = true) (h4 : (decide (k.elo ≤ k.ehi)) = true) (h5 : (decide (k.ehi ≤ 10000)) = false) :
    Calls Tryz.prog 89 #[.agg k.cs.toArray] w fun e w' => e = .returned (.bool false) ∧ Below w.heap.size w w' := by
  have I0 := Lib.hid (fun w => minside_is h0 w)
  clear h0
  have I1 := Lib.hid (fun w => minside_is h1 w)
  clear h1
  have I2 := Lib.hid (fun w => minside_is h2 w)
  clear h2
  have e8 : k.cs[8]? = some (.int .i64 k.half) := rfl
  have e9 : k.cs[9]? = some (.int .i64 k.step) := rfl
  have e10 : k.cs[10]? = some (.int .i64 k.cuts) := rfl
  have e11 : k.cs[11]? = some (.int .i64 k.elo) := rfl
  have e12 : k.cs[12]? = some (.int .i64 k.ehi) := rfl
  have e13 : k.cs[13]? = some (.int .i64 k.prism) := rfl
  have e14 : k.cs[14]? = some (.int .i64 k.squeeze) := rfl
  have e15 : k.cs[15]? = some (.int .i64 k.front) := rfl
  have e16 : k.cs[16]? = some (.int .i64 k.deep) := rfl
  go_enter Tryz.func89, Tryz.ntmps89
  go_wp2_with (go_at_call 58; refine (mspan_any _ _ _).mono ?_; rintro e w1 ⟨rfl, hb1⟩)
  have HG := Lib.hid (show Gr w (w1.alloc (Obj.cells #[.int .i64 0, .int .i64 10000] 23)) from ((Gr.alloc _ _).tr hb1).tr (Gr.alloc _ _))
  have hB1 : Box (w1.alloc (Obj.cells #[.int .i64 0, .int .i64 10000] 23)) w.heap.size k.cs 28 := ((Box.fresh w k.cs 28).grow hb1).grow (Gr.alloc _ _)
  have hB2 : Box (w1.alloc (Obj.cells #[.int .i64 0, .int .i64 10000] 23)) w1.heap.size [.int .i64 0, .int .i64 10000] 23 := Box.fresh _ _ _
  generalize w1.alloc (Obj.cells #[.int .i64 0, .int .i64 10000] 23) = Wb at *
  have c8 := hB1.cell e8
  have c9 := hB1.cell e9
  have c10 := hB1.cell e10
  have c11 := hB1.cell e11
  have c12 := hB1.cell e12
  have c13 := hB1.cell e13
  have c14 := hB1.cell e14
  have c15 := hB1.cell e15
  have c16 := hB1.cell e16
  obtain ⟨t0, t1, -, -, tl⟩ := hB2.two
  have kl := hB1.lt
  clear hB1 hB2 hb1 e8 e9 e10 e11 e12 e13 e14 e15 e16
  refine region2 61 ?_ ?_ ?_
  · kernel_rfl
  · kernel_rfl
  simp only [List.take_succ_cons, List.take_zero, List.drop_succ_cons, List.drop_zero]
  apply ceq (D := [(1, none)]) rfl (by kernel_rfl)
  · intro ρ W ⟨p1,p2,p3⟩ hG hF K hK; (try simp [FD] at hF); have ⟨hc, hf, hz⟩ := bdr hG; go_simp; exact hK _ gv
  apply ceq (D := [(5, some 0)]) rfl (by kernel_rfl)
  · intro ρ W ⟨p1,p2,p3⟩ hG hF K hK; (try simp [FD] at hF); have ⟨hc, hf, hz⟩ := bdr hG; go_simp; exact hK _ gv
  apply ceq (D := []) rfl (by kernel_rfl)
  · intro ρ W ⟨p1,p2,p3⟩ hG hF K hK; (try simp [FD] at hF); have ⟨hc, hf, hz⟩ := bdr hG; go_simp; exact hK _ (gc (mspan_any _ _ _))
  apply ceq (D := [(6, some 1), (7, some 0)]) rfl (by kernel_rfl)
  · intro ρ W ⟨p1,p2,p3⟩ hG hF K hK; (try simp [FD] at hF); have ⟨hc, hf, hz⟩ := bdr hG; go_simp; exact hK _ (gc (I0.out _))
  apply ceq (D := [(8, some 0)]) rfl (by kernel_rfl)
  · intro ρ W ⟨p1,p2,p3⟩ hG hF K hK; (try simp [FD] at hF); have ⟨hc, hf, hz⟩ := bdr hG; go_simp; exact hK _ gv
  apply clq (D := [(1, none), (9, some 0)]) (by kernel_rfl)
  · intro ρ W hF; (try simp [FD] at hF); simp [Lets, *]
  · intro ρ W ⟨p1,p2,p3⟩ hG hF K hK; (try simp [FD] at hF); have ⟨hc, hf, hz⟩ := bdr hG; go_simp; exact hK _ gv
  apply clq (D := [(10, some 0), (9, some 1)]) (by kernel_rfl)
  · intro ρ W hF; (try simp [FD] at hF); simp [Lets, *]
  · intro ρ W ⟨p1,p2,p3⟩ hG hF K hK; (try simp [FD] at hF); have ⟨hc, hf, hz⟩ := bdr hG; go_simp; exact hK _ gv
  apply clq (D := [(9, some 2)]) (by kernel_rfl)
  · intro ρ W hF; (try simp [FD] at hF); simp [Lets, *]
  · intro ρ W ⟨p1,p2,p3⟩ hG hF K hK; (try simp [FD] at hF); have ⟨hc, hf, hz⟩ := bdr hG; go_simp; exact hK _ (gc (mspan_any _ _ _))
  apply clq (D := [(11, some 1), (12, some 0), (9, some 3)]) (by kernel_rfl)
  · intro ρ W hF; (try simp [FD] at hF); simp [Lets, *]
  · intro ρ W ⟨p1,p2,p3⟩ hG hF K hK; (try simp [FD] at hF); have ⟨hc, hf, hz⟩ := bdr hG; go_simp; exact hK _ (gc (I1.out _))
  apply ceq (D := [(9, some 4), (13, some 0)]) rfl (by kernel_rfl)
  · intro ρ W ⟨p1,p2,p3⟩ hG hF K hK; (try simp [FD] at hF); have ⟨hc, hf, hz⟩ := bdr hG; go_simp; exact hK _ gv
  apply ceq (D := [(14, some 0)]) rfl (by kernel_rfl)
  · intro ρ W ⟨p1,p2,p3⟩ hG hF K hK; (try simp [FD] at hF); have ⟨hc, hf, hz⟩ := bdr hG; go_simp; exact hK _ gv
  apply clq (D := [(1, none), (15, some 0)]) (by kernel_rfl)
  · intro ρ W hF; (try simp [FD] at hF); simp [Lets, *]
  · intro ρ W ⟨p1,p2,p3⟩ hG hF K hK; (try simp [FD] at hF); have ⟨hc, hf, hz⟩ := bdr hG; go_simp; exact hK _ gv
  apply clq (D := [(16, some 0), (15, some 1)]) (by kernel_rfl)
  · intro ρ W hF; (try simp [FD] at hF); simp [Lets, *]
  · intro ρ W ⟨p1,p2,p3⟩ hG hF K hK; (try simp [FD] at hF); have ⟨hc, hf, hz⟩ := bdr hG; go_simp; exact hK _ gv
  apply clq (D := [(15, some 2)]) (by kernel_rfl)
  · intro ρ W hF; (try simp [FD] at hF); simp [Lets, *]
  · intro ρ W ⟨p1,p2,p3⟩ hG hF K hK; (try simp [FD] at hF); have ⟨hc, hf, hz⟩ := bdr hG; go_simp; exact hK _ (gc (mspan_any _ _ _))
  apply clq (D := [(17, some 1), (18, some 0), (15, some 3)]) (by kernel_rfl)
  · intro ρ W hF; (try simp [FD] at hF); simp [Lets, *]
  · intro ρ W ⟨p1,p2,p3⟩ hG hF K hK; (try simp [FD] at hF); have ⟨hc, hf, hz⟩ := bdr hG; go_simp; exact hK _ (gc (I2.out _))
  apply ceq (D := [(15, some 4), (19, some 0)]) rfl (by kernel_rfl)
  · intro ρ W ⟨p1,p2,p3⟩ hG hF K hK; (try simp [FD] at hF); have ⟨hc, hf, hz⟩ := bdr hG; go_simp; exact hK _ gv
  apply ceq (D := [(20, some 0)]) rfl (by kernel_rfl)
  · intro ρ W ⟨p1,p2,p3⟩ hG hF K hK; (try simp [FD] at hF); have ⟨hc, hf, hz⟩ := bdr hG; go_simp; exact hK _ gv
  apply clq (D := [(1, none), (21, some 0)]) (by kernel_rfl)
  · intro ρ W hF; (try simp [FD] at hF); simp [Lets, *]
  · intro ρ W ⟨p1,p2,p3⟩ hG hF K hK; (try simp [FD] at hF); have ⟨hc, hf, hz⟩ := bdr hG; go_simp; exact hK _ gv
  apply clq (D := [(22, some 0), (21, some 1)]) (by kernel_rfl)
  · intro ρ W hF; (try simp [FD] at hF); simp [Lets, *]
  · intro ρ W ⟨p1,p2,p3⟩ hG hF K hK; (try simp [FD] at hF); have ⟨hc, hf, hz⟩ := bdr hG; go_simp; exact hK _ gv
  apply clq (D := [(23, some 0), (21, some 2)]) (by kernel_rfl)
  · intro ρ W hF; (try simp [FD] at hF); simp [Lets, *]
  · intro ρ W ⟨p1,p2,p3⟩ hG hF K hK; (try simp [FD] at hF); have ⟨hc, hf, hz⟩ := bdr hG; go_simp; exact hK _ gv
  apply clq (D := [(24, some 0), (21, some 3)]) (by kernel_rfl)
  · intro ρ W hF; (try simp [FD] at hF); simp [Lets, *]
  · intro ρ W ⟨p1,p2,p3⟩ hG hF K hK; (try simp [FD] at hF); have ⟨hc, hf, hz⟩ := bdr hG; go_simp; exact hK _ gv
  apply ceq (D := [(21, some 4), (25, some 0)]) rfl (by kernel_rfl)
  · intro ρ W ⟨p1,p2,p3⟩ hG hF K hK; (try simp [FD] at hF); have ⟨hc, hf, hz⟩ := bdr hG; go_simp; exact hK _ gv
  apply ceq (D := [(26, some 0)]) rfl (by kernel_rfl)
  · intro ρ W ⟨p1,p2,p3⟩ hG hF K hK; (try simp [FD] at hF); have ⟨hc, hf, hz⟩ := bdr hG; go_simp; exact hK _ gv
  apply clq (D := [(1, none), (27, some 0)]) (by kernel_rfl)
  · intro ρ W hF; (try simp [FD] at hF); simp [Lets, *]
  · intro ρ W ⟨p1,p2,p3⟩ hG hF K hK; (try simp [FD] at hF); have ⟨hc, hf, hz⟩ := bdr hG; go_simp; exact hK _ gv
  apply clq (D := [(28, some 0), (27, some 1)]) (by kernel_rfl)
  · intro ρ W hF; (try simp [FD] at hF); simp [Lets, *]
  · intro ρ W ⟨p1,p2,p3⟩ hG hF K hK; (try simp [FD] at hF); have ⟨hc, hf, hz⟩ := bdr hG; go_simp; exact hK _ gv
  apply clq (D := [(29, some 0), (27, some 2)]) (by kernel_rfl)
  · intro ρ W hF; (try simp [FD] at hF); simp [Lets, *]
  · intro ρ W ⟨p1,p2,p3⟩ hG hF K hK; (try simp [FD] at hF); have ⟨hc, hf, hz⟩ := bdr hG; go_simp; exact hK _ gv
  apply clq (D := [(1, none), (27, some 3)]) (by kernel_rfl)
  · intro ρ W hF; (try simp [FD] at hF); simp [Lets, *]
  · intro ρ W ⟨p1,p2,p3⟩ hG hF K hK; (try simp [FD] at hF); have ⟨hc, hf, hz⟩ := bdr hG; go_simp; exact hK _ gv
  apply clq (D := [(31, some 0), (27, some 4)]) (by kernel_rfl)
  · intro ρ W hF; (try simp [FD] at hF); simp [Lets, *]
  · intro ρ W ⟨p1,p2,p3⟩ hG hF K hK; (try simp [FD] at hF); have ⟨hc, hf, hz⟩ := bdr hG; go_simp; exact hK _ gv
  apply clq (D := [(32, some 0), (27, some 5)]) (by kernel_rfl)
  · intro ρ W hF; (try simp [FD] at hF); simp [Lets, *]
  · intro ρ W ⟨p1,p2,p3⟩ hG hF K hK; (try simp [FD] at hF); have ⟨hc, hf, hz⟩ := bdr hG; go_simp; exact hK _ gv
  apply clq (D := [(30, some 3), (33, some 0), (27, some 6)]) (by kernel_rfl)
  · intro ρ W hF; (try simp [FD] at hF); simp [Lets, *]
  · intro ρ W ⟨p1,p2,p3⟩ hG hF K hK; (try simp [FD] at hF); have ⟨hc, hf, hz⟩ := bdr hG; go_simp; exact hK _ gv
  apply ceq (D := [(27, some 7), (34, some 0)]) rfl (by kernel_rfl)
  · intro ρ W ⟨p1,p2,p3⟩ hG hF K hK; (try simp [FD] at hF); have ⟨hc, hf, hz⟩ := bdr hG; go_simp; exact hK _ gv
  apply ceq (D := [(35, some 0)]) rfl (by kernel_rfl)
  · intro ρ W ⟨p1,p2,p3⟩ hG hF K hK; (try simp [FD] at hF); have ⟨hc, hf, hz⟩ := bdr hG; go_simp; exact hK _ gv
  apply clq (D := [(1, none), (36, some 0)]) (by kernel_rfl)
  · intro ρ W hF; (try simp [FD] at hF); simp [Lets, *]
  · intro ρ W ⟨p1,p2,p3⟩ hG hF K hK; (try simp [FD] at hF); have ⟨hc, hf, hz⟩ := bdr hG; go_simp; exact hK _ gv
  apply clq (D := [(37, some 0), (36, some 1)]) (by kernel_rfl)
  · intro ρ W hF; (try simp [FD] at hF); simp [Lets, *]
  · intro ρ W ⟨p1,p2,p3⟩ hG hF K hK; (try simp [FD] at hF); have ⟨hc, hf, hz⟩ := bdr hG; go_simp; exact hK _ gv
  apply clq (D := [(38, some 0), (36, some 2)]) (by kernel_rfl)
  · intro ρ W hF; (try simp [FD] at hF); simp [Lets, *]
  · intro ρ W ⟨p1,p2,p3⟩ hG hF K hK; (try simp [FD] at hF); have ⟨hc, hf, hz⟩ := bdr hG; go_simp; exact hK _ gv
  apply clq (D := [(39, some 0), (36, some 3)]) (by kernel_rfl)
  · intro ρ W hF; (try simp [FD] at hF); simp [Lets, *]
  · intro ρ W ⟨p1,p2,p3⟩ hG hF K hK; (try simp [FD] at hF); have ⟨hc, hf, hz⟩ := bdr hG; go_simp; exact hK _ gv
  apply ceq (D := [(36, some 4), (40, some 0)]) rfl (by kernel_rfl)
  · intro ρ W ⟨p1,p2,p3⟩ hG hF K hK; (try simp [FD] at hF); have ⟨hc, hf, hz⟩ := bdr hG; go_simp; exact hK _ gv
  apply ceq (D := [(41, some 0)]) rfl (by kernel_rfl)
  · intro ρ W ⟨p1,p2,p3⟩ hG hF K hK; (try simp [FD] at hF); have ⟨hc, hf, hz⟩ := bdr hG; go_simp; exact hK _ gv
  refine csk (D := [(1, none), (42, some 0)]) (by kernel_rfl) ?_ ?_
  · intro ρ W hF; (try simp [FD] at hF); simp [Lets, *]
  refine csk (D := [(43, some 0), (42, some 1)]) (by kernel_rfl) ?_ ?_
  · intro ρ W hF; (try simp [FD] at hF); simp [Lets, *]
  refine csk (D := [(3, none), (42, some 2)]) (by kernel_rfl) ?_ ?_
  · intro ρ W hF; (try simp [FD] at hF); simp [Lets, *]
  refine csk (D := [(44, some 1), (45, some 0), (42, some 3)]) (by kernel_rfl) ?_ ?_
  · intro ρ W hF; (try simp [FD] at hF); simp [Lets, *]
  apply ceq (D := [(42, some 4), (46, some 0)]) rfl (by kernel_rfl)
  · intro ρ W ⟨p1,p2,p3⟩ hG hF K hK; (try simp [FD] at hF); have ⟨hc, hf, hz⟩ := bdr hG; go_simp; exact hK _ gv
  apply ceq (D := [(47, some 0)]) rfl (by kernel_rfl)
  · intro ρ W ⟨p1,p2,p3⟩ hG hF K hK; (try simp [FD] at hF); have ⟨hc, hf, hz⟩ := bdr hG; go_simp; exact hK _ gv
  refine csk (D := [(1, none), (48, some 0)]) (by kernel_rfl) ?_ ?_
  · intro ρ W hF; (try simp [FD] at hF); simp [Lets, *]
  refine csk (D := [(49, some 0), (48, some 1)]) (by kernel_rfl) ?_ ?_
  · intro ρ W hF; (try simp [FD] at hF); simp [Lets, *]
  refine csk (D := [(3, none), (48, some 2)]) (by kernel_rfl) ?_ ?_
  · intro ρ W hF; (try simp [FD] at hF); simp [Lets, *]
  refine csk (D := [(50, some 1), (51, some 0), (48, some 3)]) (by kernel_rfl) ?_ ?_
  · intro ρ W hF; (try simp [FD] at hF); simp [Lets, *]
  apply ceq (D := [(48, some 4), (52, some 0)]) rfl (by kernel_rfl)
  · intro ρ W ⟨p1,p2,p3⟩ hG hF K hK; (try simp [FD] at hF); have ⟨hc, hf, hz⟩ := bdr hG; go_simp; exact hK _ gv
  apply ceq (D := [(53, some 0)]) rfl (by kernel_rfl)
  · intro ρ W ⟨p1,p2,p3⟩ hG hF K hK; (try simp [FD] at hF); have ⟨hc, hf, hz⟩ := bdr hG; go_simp; exact hK _ gv
  refine csk (D := [(1, none), (54, some 0)]) (by kernel_rfl) ?_ ?_
  · intro ρ W hF; (try simp [FD] at hF); simp [Lets, *]
  refine csk (D := [(55, some 0), (54, some 1)]) (by kernel_rfl) ?_ ?_
  · intro ρ W hF; (try simp [FD] at hF); simp [Lets, *]
  refine csk (D := [(3, none), (54, some 2)]) (by kernel_rfl) ?_ ?_
  · intro ρ W hF; (try simp [FD] at hF); simp [Lets, *]
  refine csk (D := [(56, some 1), (57, some 0), (54, some 3)]) (by kernel_rfl) ?_ ?_
  · intro ρ W hF; (try simp [FD] at hF); simp [Lets, *]
  apply ceq (D := [(54, some 4), (58, some 0)]) rfl (by kernel_rfl)
  · intro ρ W ⟨p1,p2,p3⟩ hG hF K hK; (try simp [FD] at hF); have ⟨hc, hf, hz⟩ := bdr hG; go_simp; exact hK _ gv
  apply ceq (D := [(59, some 0)]) rfl (by kernel_rfl)
  · intro ρ W ⟨p1,p2,p3⟩ hG hF K hK; (try simp [FD] at hF); have ⟨hc, hf, hz⟩ := bdr hG; go_simp; exact hK _ gv
  refine csk (D := [(1, none), (60, some 0)]) (by kernel_rfl) ?_ ?_
  · intro ρ W hF; (try simp [FD] at hF); simp [Lets, *]
  refine csk (D := [(61, some 0), (60, some 1)]) (by kernel_rfl) ?_ ?_
  · intro ρ W hF; (try simp [FD] at hF); simp [Lets, *]
  refine csk (D := [(3, none), (60, some 2)]) (by kernel_rfl) ?_ ?_
  · intro ρ W hF; (try simp [FD] at hF); simp [Lets, *]
  refine csk (D := [(62, some 1), (63, some 0), (60, some 3)]) (by kernel_rfl) ?_ ?_
  · intro ρ W hF; (try simp [FD] at hF); simp [Lets, *]
  apply ceq (D := [(60, some 4), (64, some 0)]) rfl (by kernel_rfl)
  · intro ρ W ⟨p1,p2,p3⟩ hG hF K hK; (try simp [FD] at hF); have ⟨hc, hf, hz⟩ := bdr hG; go_simp; exact hK _ gv
  refine cdn ?_
  intro vs W hG hV
  obtain ⟨e60, -⟩ := hV
  simp only [Nat.reduceSub] at e60
  set_option maxRecDepth 100000 in
  simp only [lay, Act.put, List.getElem?_toArray, List.getElem?_cons_succ, List.getElem?_cons_zero, Option.bind_some, List.setIfInBounds_toArray, List.set_cons_succ, List.set_cons_zero]
  generalize vs 0 = v0, vs 1 = v1, vs 2 = v2, vs 3 = v3, vs 4 = v4, vs 5 = v5, vs 6 = v6, vs 7 = v7, vs 8 = v8, vs 9 = v9, vs 10 = v10, vs 11 = v11, vs 12 = v12, vs 13 = v13, vs 14 = v14, vs 15 = v15, vs 16 = v16, vs 17 = v17, vs 18 = v18, vs 19 = v19, vs 20 = v20, vs 21 = v21, vs 22 = v22, vs 23 = v23, vs 24 = v24, vs 25 = v25, vs 26 = v26, vs 27 = v27, vs 28 = v28, vs 29 = v29, vs 30 = v30, vs 31 = v31, vs 32 = v32, vs 33 = v33, vs 34 = v34, vs 35 = v35, vs 36 = v36, vs 37 = v37, vs 38 = v38, vs 39 = v39, vs 40 = v40, vs 41 = v41, vs 42 = v42, vs 43 = v43, vs 44 = v44, vs 45 = v45, vs 46 = v46, vs 47 = v47, vs 48 = v48, vs 49 = v49, vs 50 = v50, vs 51 = v51, vs 52 = v52, vs 53 = v53, vs 54 = v54, vs 55 = v55, vs 56 = v56, vs 57 = v57, vs 58 = v58, vs 59 = v59
  generalize vs 60 = v60 at *
  subst e60
  obtain ⟨hc, hf, hz⟩ := bcell hG
  go_wp2
  go_ret
  exact ⟨rfl, (show Gr w Wb from HG.out).trans (Below.mono hG (show Gr w Wb from HG.out).size)⟩
end Go.Proofs.YtcngaohfemdfjaaGreat
