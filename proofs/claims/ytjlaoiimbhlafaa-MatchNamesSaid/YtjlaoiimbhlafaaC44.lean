import Derived.Test.YtjlaoiimbhlafaaC43
set_option linter.unusedVariables false
set_option linter.unusedSimpArgs false
namespace Go.Proofs.Ytjlaoiimbhlafaa
open Go.RowKit Go.Shelf

open MW
attribute [local go_sem] Oper.semAt_some run_store_func
attribute [local go_sem] guard55 guard24 neq55 eql24
attribute [-go_sem] run_eql_struct run_neq_struct
set_option maxRecDepth 100000 in
set_option maxHeartbeats 4000000 in
theorem names_any (w : World) : Calls Try.prog 6 #[] w fun e w' => e = .returned (.bool true) ∧ Below w.heap.size w w' := by
  have HSm := Lib.hid sample_any
  have HG := Lib.hid (Gr.same w)
  go_enter Try.func6, Try.ntmps6
  go_wp2_with (first | (go_at_call 34; refine (HSm.out _).mono ?_; rintro e wa ⟨⟨bL, bR, rfl, hml, hmr⟩, hb⟩; have HL := Lib.hid hml; have HR := Lib.hid hmr; have HG := Lib.hid (show Gr w wa from by first | exact Gr.tr HG.out hb | exact Gr.tr (HG.out.tr (Gr.alloc _ _)) hb); (try have HPV := Lib.hid (HPV.out.grow (by first | exact hb | exact Gr.tr (Gr.alloc _ _) hb))); (try have HCV := Lib.hid (HCV.out.grow (by first | exact hb | exact Gr.tr (Gr.alloc _ _) hb))); (try have HSV := Lib.hid (HSV.out.grow (by first | exact hb | exact Gr.tr (Gr.alloc _ _) hb))); (try have HB24 := Lib.hid (HB24.out.grow (by first | exact hb | exact Gr.tr (Gr.alloc _ _) hb))); (try have HB24 := Lib.hid ((Box.fresh wg [.int .i64 6, .int .i64 20] 24).grow hb)); clear hb hml hmr) | (go_at_call 16; refine (s16_00 bL bR _ HL.out HR.out).mono ?_; rintro e wb ⟨rfl, hb⟩; have HG := Lib.hid (show Gr w wb from by first | exact Gr.tr HG.out hb | exact Gr.tr (HG.out.tr (Gr.alloc _ _)) hb); (try have HPV := Lib.hid (HPV.out.grow (by first | exact hb | exact Gr.tr (Gr.alloc _ _) hb))); (try have HCV := Lib.hid (HCV.out.grow (by first | exact hb | exact Gr.tr (Gr.alloc _ _) hb))); (try have HSV := Lib.hid (HSV.out.grow (by first | exact hb | exact Gr.tr (Gr.alloc _ _) hb))); (try have HB24 := Lib.hid (HB24.out.grow (by first | exact hb | exact Gr.tr (Gr.alloc _ _) hb))); clear hb) | (go_at_call 27; refine (s27 bL bR _ HL.out HR.out).mono ?_; rintro e wc ⟨rfl, hb⟩; have HG := Lib.hid (show Gr w wc from by first | exact Gr.tr HG.out hb | exact Gr.tr (HG.out.tr (Gr.alloc _ _)) hb); (try have HPV := Lib.hid (HPV.out.grow (by first | exact hb | exact Gr.tr (Gr.alloc _ _) hb))); (try have HCV := Lib.hid (HCV.out.grow (by first | exact hb | exact Gr.tr (Gr.alloc _ _) hb))); (try have HSV := Lib.hid (HSV.out.grow (by first | exact hb | exact Gr.tr (Gr.alloc _ _) hb))); (try have HB24 := Lib.hid (HB24.out.grow (by first | exact hb | exact Gr.tr (Gr.alloc _ _) hb))); clear hb) | (go_at_call 30; refine (s30_0 bL bR _ HL.out HR.out).mono ?_; rintro e wg ⟨rfl, hb⟩; have HG := Lib.hid (show Gr w wg from by first | exact Gr.tr HG.out hb | exact Gr.tr (HG.out.tr (Gr.alloc _ _)) hb); (try have HPV := Lib.hid (HPV.out.grow (by first | exact hb | exact Gr.tr (Gr.alloc _ _) hb))); (try have HCV := Lib.hid (HCV.out.grow (by first | exact hb | exact Gr.tr (Gr.alloc _ _) hb))); (try have HSV := Lib.hid (HSV.out.grow (by first | exact hb | exact Gr.tr (Gr.alloc _ _) hb))); (try have HB24 := Lib.hid (HB24.out.grow (by first | exact hb | exact Gr.tr (Gr.alloc _ _) hb))); clear hb))
  have HB24 := Lib.hid (Box.fresh wg [.int .i64 8, .int .i64 12] 24)
  have HGA := Lib.hid (HG.out.tr (Gr.alloc wg (Obj.cells #[.int .i64 8, .int .i64 12] 24)))
  refine region2 32 ?_ ?_ ?_
  · kernel_rfl
  · kernel_rfl
  simp only [List.take_succ_cons, List.take_zero, List.drop_succ_cons, List.drop_zero]
  apply chain_eq (D := []) rfl (by kernel_rfl)
  · intro ρ W ⟨p1, p2, p3⟩ hG hF K hK; (try simp [FactsD] at hF); have ⟨hc, hf, hz⟩ := bcell (Gr.tr (Gr.drew _) hG); go_simp; exact hK _ (gives_val)
  apply chain_leq (D := [(24, some 0)]) (by kernel_rfl)
  · intro ρ W hF; (try simp [FactsD] at hF); simp [Lets, *]
  · intro ρ W ⟨p1, p2, p3⟩ hG hF K hK; (try simp [FactsD] at hF); have ⟨hc, hf, hz⟩ := bcell (Gr.tr (Gr.drew _) hG); go_simp; exact hK _ (gives_call (alive_any _))
  apply chain_eq (D := [(24, some 1), (25, some 0)]) rfl (by kernel_rfl)
  · intro ρ W ⟨p1, p2, p3⟩ hG hF K hK; (try simp [FactsD] at hF); have ⟨hc, hf, hz⟩ := bcell (Gr.tr (Gr.drew _) hG); go_simp; exact hK _ (gives_val)
  apply chain_eq (D := [(26, some 0)]) rfl (by kernel_rfl)
  · intro ρ W ⟨p1, p2, p3⟩ hG hF K hK; (try simp [FactsD] at hF); have ⟨hc, hf, hz⟩ := bcell (Gr.tr (Gr.drew _) hG); go_simp; exact hK _ (gives_val)
  apply chain_leq (D := [(1, none), (27, some 0)]) (by kernel_rfl)
  · intro ρ W hF; (try simp [FactsD] at hF); simp [Lets, *]
  · intro ρ W ⟨p1, p2, p3⟩ hG hF K hK; (try simp [FactsD] at hF); have ⟨hc, hf, hz⟩ := bcell (Gr.tr (Gr.drew _) hG); go_simp; exact hK _ (gives_val)
  apply chain_eq (D := [(27, some 1), (28, some 0)]) rfl (by kernel_rfl)
  · intro ρ W ⟨p1, p2, p3⟩ hG hF K hK; (try simp [FactsD] at hF); have ⟨hc, hf, hz⟩ := bcell (Gr.tr (Gr.drew _) hG); go_simp; exact hK _ (gives_val)
  apply chain_eq (D := [(29, some 0)]) rfl (by kernel_rfl)
  · intro ρ W ⟨p1, p2, p3⟩ hG hF K hK; (try simp [FactsD] at hF); have ⟨hc, hf, hz⟩ := bcell (Gr.tr (Gr.drew _) hG); go_simp; exact hK _ (gives_val)
  apply chain_leq (D := [(2, none), (30, some 0)]) (by kernel_rfl)
  · intro ρ W hF; (try simp [FactsD] at hF); simp [Lets, *]
  · intro ρ W ⟨p1, p2, p3⟩ hG hF K hK; (try simp [FactsD] at hF); have ⟨hc, hf, hz⟩ := bcell (Gr.tr (Gr.drew _) hG); go_simp; exact hK _ (gives_val)
  apply chain_leq (D := [(31, some 0), (30, some 1)]) (by kernel_rfl)
  · intro ρ W hF; (try simp [FactsD] at hF); simp [Lets, *]
  · intro ρ W ⟨p1, p2, p3⟩ hG hF K hK; (try simp [FactsD] at hF); have ⟨hc, hf, hz⟩ := bcell (Gr.tr (Gr.drew _) hG); go_simp; exact hK _ (gives_val)
  apply chain_eq (D := [(30, some 2), (32, some 0)]) rfl (by kernel_rfl)
  · intro ρ W ⟨p1, p2, p3⟩ hG hF K hK; (try simp [FactsD] at hF); have ⟨hc, hf, hz⟩ := bcell (Gr.tr (Gr.drew _) hG); go_simp; exact hK _ (gives_val)
  apply chain_eq (D := [(33, some 0)]) rfl (by kernel_rfl)
  · intro ρ W ⟨p1, p2, p3⟩ hG hF K hK; (try simp [FactsD] at hF); have ⟨hc, hf, hz⟩ := bcell (Gr.tr (Gr.drew _) hG); go_simp; exact hK _ (gives_val)
  apply chain_leq (D := [(3, none), (34, some 0)]) (by kernel_rfl)
  · intro ρ W hF; (try simp [FactsD] at hF); simp [Lets, *]
  · intro ρ W ⟨p1, p2, p3⟩ hG hF K hK; (try simp [FactsD] at hF); have ⟨hc, hf, hz⟩ := bcell (Gr.tr (Gr.drew _) hG); go_simp; exact hK _ (gives_val)
  apply chain_leq (D := [(35, some 0), (34, some 1)]) (by kernel_rfl)
  · intro ρ W hF; (try simp [FactsD] at hF); simp [Lets, *]
  · intro ρ W ⟨p1, p2, p3⟩ hG hF K hK; (try simp [FactsD] at hF); have ⟨hc, hf, hz⟩ := bcell (Gr.tr (Gr.drew _) hG); go_simp; exact hK _ (gives_val)
  apply chain_eq (D := [(34, some 2), (36, some 0)]) rfl (by kernel_rfl)
  · intro ρ W ⟨p1, p2, p3⟩ hG hF K hK; (try simp [FactsD] at hF); have ⟨hc, hf, hz⟩ := bcell (Gr.tr (Gr.drew _) hG); go_simp; exact hK _ (gives_val)
  apply chain_eq (D := [(37, some 0)]) rfl (by kernel_rfl)
  · intro ρ W ⟨p1, p2, p3⟩ hG hF K hK; (try simp [FactsD] at hF); have ⟨hc, hf, hz⟩ := bcell (Gr.tr (Gr.drew _) hG); go_simp; exact hK _ (gives_val)
  apply chain_leq (D := [(4, none), (38, some 0)]) (by kernel_rfl)
  · intro ρ W hF; (try simp [FactsD] at hF); simp [Lets, *]
  · intro ρ W ⟨p1, p2, p3⟩ hG hF K hK; (try simp [FactsD] at hF); have ⟨hc, hf, hz⟩ := bcell (Gr.tr (Gr.drew _) hG); go_simp; exact hK _ (gives_val)
  apply chain_leq (D := [(39, some 0), (38, some 1)]) (by kernel_rfl)
  · intro ρ W hF; (try simp [FactsD] at hF); simp [Lets, *]
  · intro ρ W ⟨p1, p2, p3⟩ hG hF K hK; (try simp [FactsD] at hF); have ⟨hc, hf, hz⟩ := bcell (Gr.tr (Gr.drew _) hG); go_simp; exact hK _ (gives_val)
  apply chain_eq (D := [(38, some 2), (40, some 0)]) rfl (by kernel_rfl)
  · intro ρ W ⟨p1, p2, p3⟩ hG hF K hK; (try simp [FactsD] at hF); have ⟨hc, hf, hz⟩ := bcell (Gr.tr (Gr.drew _) hG); go_simp; exact hK _ (gives_val)
  apply chain_eq (D := [(41, some 0)]) rfl (by kernel_rfl)
  · intro ρ W ⟨p1, p2, p3⟩ hG hF K hK; (try simp [FactsD] at hF); have ⟨hc, hf, hz⟩ := bcell (Gr.tr (Gr.drew _) hG); go_simp; exact hK _ (gives_val)
  apply chain_leq (D := [(5, none), (42, some 0)]) (by kernel_rfl)
  · intro ρ W hF; (try simp [FactsD] at hF); simp [Lets, *]
  · intro ρ W ⟨p1, p2, p3⟩ hG hF K hK; (try simp [FactsD] at hF); have ⟨hc, hf, hz⟩ := bcell (Gr.tr (Gr.drew _) hG); go_simp; exact hK _ (gives_val)
  apply chain_leq (D := [(43, some 0), (42, some 1)]) (by kernel_rfl)
  · intro ρ W hF; (try simp [FactsD] at hF); simp [Lets, *]
  · intro ρ W ⟨p1, p2, p3⟩ hG hF K hK; (try simp [FactsD] at hF); have ⟨hc, hf, hz⟩ := bcell (Gr.tr (Gr.drew _) hG); go_simp; exact hK _ (gives_val)
  apply chain_eq (D := [(42, some 2), (44, some 0)]) rfl (by kernel_rfl)
  · intro ρ W ⟨p1, p2, p3⟩ hG hF K hK; (try simp [FactsD] at hF); have ⟨hc, hf, hz⟩ := bcell (Gr.tr (Gr.drew _) hG); go_simp; exact hK _ (gives_val)
  apply chain_eq (D := [(45, some 0)]) rfl (by kernel_rfl)
  · intro ρ W ⟨p1, p2, p3⟩ hG hF K hK; (try simp [FactsD] at hF); have ⟨hc, hf, hz⟩ := bcell (Gr.tr (Gr.drew _) hG); go_simp; exact hK _ (gives_val)
  apply chain_leq (D := [(6, none), (46, some 0)]) (by kernel_rfl)
  · intro ρ W hF; (try simp [FactsD] at hF); simp [Lets, *]
  · intro ρ W ⟨p1, p2, p3⟩ hG hF K hK; (try simp [FactsD] at hF); have ⟨hc, hf, hz⟩ := bcell (Gr.tr (Gr.drew _) hG); have q0 := (HB24.out.grow (Gr.tr (Gr.drew _) hG)).cell (i := 0) rfl; have q1 := (HB24.out.grow (Gr.tr (Gr.drew _) hG)).cell (i := 1) rfl; go_simp; exact hK _ (gives_val)
  apply chain_leq (D := [(46, some 1)]) (by kernel_rfl)
  · intro ρ W hF; (try simp [FactsD] at hF); simp [Lets, *]
  · intro ρ W ⟨p1, p2, p3⟩ hG hF K hK; (try simp [FactsD] at hF); have ⟨hc, hf, hz⟩ := bcell (Gr.tr (Gr.drew _) hG); go_simp; exact hK _ (gives_call (span35_any 8 12 _))
  apply chain_leq (D := [(47, some 1), (48, some 0), (46, some 2)]) (by kernel_rfl)
  · intro ρ W hF; (try simp [FactsD] at hF); simp [Lets, *]
  · intro ρ W ⟨p1, p2, p3⟩ hG hF K hK; (try simp [FactsD] at hF); have ⟨hc, hf, hz⟩ := bcell (Gr.tr (Gr.drew _) hG); go_simp; exact hK _ (gives_val)
  apply chain_eq (D := [(46, some 3), (49, some 0)]) rfl (by kernel_rfl)
  · intro ρ W ⟨p1, p2, p3⟩ hG hF K hK; (try simp [FactsD] at hF); have ⟨hc, hf, hz⟩ := bcell (Gr.tr (Gr.drew _) hG); go_simp; exact hK _ (gives_val)
  apply chain_eq (D := [(50, some 0)]) rfl (by kernel_rfl)
  · intro ρ W ⟨p1, p2, p3⟩ hG hF K hK; (try simp [FactsD] at hF); have ⟨hc, hf, hz⟩ := bcell (Gr.tr (Gr.drew _) hG); go_simp; exact hK _ (gives_val)
  apply chain_leq (D := [(7, none), (51, some 0)]) (by kernel_rfl)
  · intro ρ W hF; (try simp [FactsD] at hF); simp [Lets, *]
  · intro ρ W ⟨p1, p2, p3⟩ hG hF K hK; (try simp [FactsD] at hF); have ⟨hc, hf, hz⟩ := bcell (Gr.tr (Gr.drew _) hG); go_simp; exact hK _ (gives_val)
  apply chain_leq (D := [(52, some 0), (51, some 1)]) (by kernel_rfl)
  · intro ρ W hF; (try simp [FactsD] at hF); simp [Lets, *]
  · intro ρ W ⟨p1, p2, p3⟩ hG hF K hK; (try simp [FactsD] at hF); have ⟨hc, hf, hz⟩ := bcell (Gr.tr (Gr.drew _) hG); go_simp; exact hK _ (gives_val)
  apply chain_eq (D := [(51, some 2), (53, some 0)]) rfl (by kernel_rfl)
  · intro ρ W ⟨p1, p2, p3⟩ hG hF K hK; (try simp [FactsD] at hF); have ⟨hc, hf, hz⟩ := bcell (Gr.tr (Gr.drew _) hG); go_simp; exact hK _ (gives_val)
  apply chain_eq (D := [(54, some 0)]) rfl (by kernel_rfl)
  · intro ρ W ⟨p1, p2, p3⟩ hG hF K hK; (try simp [FactsD] at hF); have ⟨hc, hf, hz⟩ := bcell (Gr.tr (Gr.drew _) hG); go_simp; exact hK _ (gives_val)
  refine chain_done ?_
  intro vs W hG hV
  obtain ⟨e31, -⟩ := hV
  simp only [Nat.reduceSub] at e31
  set_option maxRecDepth 100000 in
  simp only [lay, Act.put, List.getElem?_toArray, List.getElem?_cons_succ, List.getElem?_cons_zero, Option.bind_some, List.setIfInBounds_toArray, List.set_cons_succ, List.set_cons_zero]
  generalize vs 0 = v0
  generalize vs 1 = v1
  generalize vs 2 = v2
  generalize vs 3 = v3
  generalize vs 4 = v4
  generalize vs 5 = v5
  generalize vs 6 = v6
  generalize vs 7 = v7
  generalize vs 8 = v8
  generalize vs 9 = v9
  generalize vs 10 = v10
  generalize vs 11 = v11
  generalize vs 12 = v12
  generalize vs 13 = v13
  generalize vs 14 = v14
  generalize vs 15 = v15
  generalize vs 16 = v16
  generalize vs 17 = v17
  generalize vs 18 = v18
  generalize vs 19 = v19
  generalize vs 20 = v20
  generalize vs 21 = v21
  generalize vs 22 = v22
  generalize vs 23 = v23
  generalize vs 24 = v24
  generalize vs 25 = v25
  generalize vs 26 = v26
  generalize vs 27 = v27
  generalize vs 28 = v28
  generalize vs 29 = v29
  generalize vs 30 = v30
  generalize vs 31 = v31 at *
  subst e31
  obtain ⟨hc, hf, hz⟩ := bcell hG
  go_wp2_with fail
  go_ret
  exact ⟨rfl, by first | exact Gr.tr HGA.out hG | exact Gr.tr (HGA.out.tr (Gr.drew _)) hG⟩

end Go.Proofs.Ytjlaoiimbhlafaa
