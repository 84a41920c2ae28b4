import Derived.Test.YtjlaoiimbhlafaaU1
import Derived.Test.YtjlaoiimbhlafaaU2
import Derived.Laws.StructEq
set_option linter.unusedVariables false
set_option linter.unusedSimpArgs false
namespace Go.Proofs.Ytjlaoiimbhlafaa
open Go.RowKit Go.Shelf

open MW
attribute [local go_sem] Oper.semAt_some run_store_func
attribute [local go_sem ↓] Go.wp_at_zero Go.wp_at_succ
attribute [local go_sem] guard55 guard24 neq55 eql24
attribute [-go_sem] run_eql_struct run_neq_struct
theorem p02_power : (⟨9000, 9000, 65, 66, 5, 2000, 100000, []⟩ : Pq.Pr).power = (585000, 594000, 0) := by kernel_rfl
theorem things_nil (w : World) : Pq.ThingsAt [] (.slice none 0 0) w := ⟨by simp, .inl ⟨rfl, rfl⟩⟩
set_option maxRecDepth 100000 in
set_option maxHeartbeats 4000000 in
theorem alive02_any (w : World) : Calls Try.prog 43 #[] w fun e w' => e = .returned (.bool true) ∧ Below w.heap.size w w' := by
  have HSm := Lib.hid rows02_any
  have HG := Lib.hid (Gr.same w)
  go_enter Try.func43, Try.ntmps43
  go_wp2_with (first | (go_at_call 81; refine (HSm.out _).mono ?_; rintro e wa ⟨⟨bL, bR, rfl, hml, hmr⟩, hb⟩; have HL := Lib.hid hml; have HR := Lib.hid hmr; have HG := Lib.hid (show Gr w wa from by first | exact Gr.tr HG.out hb | exact Gr.tr (HG.out.tr (Gr.alloc _ _)) hb); (try have HB3 := Lib.hid (HB3.out.grow (by first | exact hb | exact Gr.tr (Gr.alloc _ _) hb))); (try have HB5 := Lib.hid (HB5.out.grow (by first | exact hb | exact Gr.tr (Gr.alloc _ _) hb))); clear hb hml hmr) | (go_at_call 18; refine (s18 bL bR _ HL.out HR.out).mono ?_; rintro e wb ⟨rfl, hb⟩; have HG := Lib.hid (show Gr w wb from by first | exact Gr.tr HG.out hb | exact Gr.tr (HG.out.tr (Gr.alloc _ _)) hb); (try have HB3 := Lib.hid (HB3.out.grow (by first | exact hb | exact Gr.tr (Gr.alloc _ _) hb))); (try have HB5 := Lib.hid (HB5.out.grow (by first | exact hb | exact Gr.tr (Gr.alloc _ _) hb))); clear hb) | (go_at_call 30; refine (s30_0 bL bR _ HL.out HR.out).mono ?_; rintro e wc ⟨rfl, hb⟩; have HG := Lib.hid (show Gr w wc from by first | exact Gr.tr HG.out hb | exact Gr.tr (HG.out.tr (Gr.alloc _ _)) hb); (try have HB3 := Lib.hid (HB3.out.grow (by first | exact hb | exact Gr.tr (Gr.alloc _ _) hb))); (try have HB5 := Lib.hid (HB5.out.grow (by first | exact hb | exact Gr.tr (Gr.alloc _ _) hb))); clear hb) | (go_at_call 44; refine (pair02_any _).mono ?_; rintro e wd ⟨rfl, hb⟩; have HG := Lib.hid (show Gr w wd from by first | exact Gr.tr HG.out hb | exact Gr.tr (HG.out.tr (Gr.alloc _ _)) hb); (try have HB3 := Lib.hid (HB3.out.grow (by first | exact hb | exact Gr.tr (Gr.alloc _ _) hb))); (try have HB5 := Lib.hid (HB5.out.grow (by first | exact hb | exact Gr.tr (Gr.alloc _ _) hb))); have HB3 := Lib.hid ((Box.fresh wc [.int .i64 8, .int .i64 12] 24).grow hb); clear hb) | (go_at_call 82; refine (Pq.power_is p02_power (things_nil _)).mono ?_; rintro e we ⟨rfl, hb⟩; have HG := Lib.hid (show Gr w we from by first | exact Gr.tr HG.out hb | exact Gr.tr (HG.out.tr (Gr.alloc _ _)) hb); (try have HB3 := Lib.hid (HB3.out.grow (by first | exact hb | exact Gr.tr (Gr.alloc _ _) hb))); (try have HB5 := Lib.hid (HB5.out.grow (by first | exact hb | exact Gr.tr (Gr.alloc _ _) hb))); clear hb))
  have HB5 := Lib.hid (Box.fresh we [.int .i64 585000, .int .i64 594000] 24)
  have HB3 := Lib.hid (HB3.out.grow (Gr.alloc we (Obj.cells #[.int .i64 585000, .int .i64 594000] 24)))
  have HG := Lib.hid (HG.out.tr (Gr.alloc we (Obj.cells #[.int .i64 585000, .int .i64 594000] 24)))
  refine region2 25 ?_ ?_ ?_
  · kernel_rfl
  · kernel_rfl
  simp only [List.take_succ_cons, List.take_zero, List.drop_succ_cons, List.drop_zero]
  apply chain_eq (D := [(1, none)]) rfl (by kernel_rfl)
  · intro ρ W ⟨p1, p2, p3⟩ hG hF K hK; (try simp [FactsD] at hF); have ⟨hc, hf, hz⟩ := bcell (Gr.tr (Gr.drew _) hG); go_simp; exact hK _ (gives_val)
  apply chain_eq (D := [(22, some 0)]) rfl (by kernel_rfl)
  · intro ρ W ⟨p1, p2, p3⟩ hG hF K hK; (try simp [FactsD] at hF); have ⟨hc, hf, hz⟩ := bcell (Gr.tr (Gr.drew _) hG); go_simp; exact hK _ (gives_val)
  apply chain_eq (D := [(23, some 0)]) rfl (by kernel_rfl)
  · intro ρ W ⟨p1, p2, p3⟩ hG hF K hK; (try simp [FactsD] at hF); have ⟨hc, hf, hz⟩ := bcell (Gr.tr (Gr.drew _) hG); go_simp; exact hK _ (gives_val)
  apply chain_leq (D := [(2, none), (24, some 0)]) (by kernel_rfl)
  · intro ρ W hF; (try simp [FactsD] at hF); simp [Lets, *]
  · intro ρ W ⟨p1, p2, p3⟩ hG hF K hK; (try simp [FactsD] at hF); have ⟨hc, hf, hz⟩ := bcell (Gr.tr (Gr.drew _) hG); go_simp; exact hK _ (gives_val)
  apply chain_leq (D := [(25, some 0), (24, some 1)]) (by kernel_rfl)
  · intro ρ W hF; (try simp [FactsD] at hF); simp [Lets, *]
  · intro ρ W ⟨p1, p2, p3⟩ hG hF K hK; (try simp [FactsD] at hF); have ⟨hc, hf, hz⟩ := bcell (Gr.tr (Gr.drew _) hG); go_simp; exact hK _ (gives_val)
  apply chain_eq (D := [(24, some 2), (26, some 0)]) rfl (by kernel_rfl)
  · intro ρ W ⟨p1, p2, p3⟩ hG hF K hK; (try simp [FactsD] at hF); have ⟨hc, hf, hz⟩ := bcell (Gr.tr (Gr.drew _) hG); go_simp; exact hK _ (gives_val)
  apply chain_eq (D := [(27, some 0)]) rfl (by kernel_rfl)
  · intro ρ W ⟨p1, p2, p3⟩ hG hF K hK; (try simp [FactsD] at hF); have ⟨hc, hf, hz⟩ := bcell (Gr.tr (Gr.drew _) hG); go_simp; exact hK _ (gives_val)
  apply chain_leq (D := [(3, none), (28, some 0)]) (by kernel_rfl)
  · intro ρ W hF; (try simp [FactsD] at hF); simp [Lets, *]
  · intro ρ W ⟨p1, p2, p3⟩ hG hF K hK; (try simp [FactsD] at hF); have ⟨hc, hf, hz⟩ := bcell (Gr.tr (Gr.drew _) hG); have q0 := (HB3.out.grow (Gr.tr (Gr.drew _) hG)).cell (i := 0) rfl; have q1 := (HB3.out.grow (Gr.tr (Gr.drew _) hG)).cell (i := 1) rfl; go_simp; exact hK _ (gives_val)
  apply chain_leq (D := [(28, some 1)]) (by kernel_rfl)
  · intro ρ W hF; (try simp [FactsD] at hF); simp [Lets, *]
  · intro ρ W ⟨p1, p2, p3⟩ hG hF K hK; (try simp [FactsD] at hF); have ⟨hc, hf, hz⟩ := bcell (Gr.tr (Gr.drew _) hG); go_simp; exact hK _ (gives_call (span47_any 8 12 _))
  apply chain_leq (D := [(29, some 1), (30, some 0), (28, some 2)]) (by kernel_rfl)
  · intro ρ W hF; (try simp [FactsD] at hF); simp [Lets, *]
  · intro ρ W ⟨p1, p2, p3⟩ hG hF K hK; (try simp [FactsD] at hF); have ⟨hc, hf, hz⟩ := bcell (Gr.tr (Gr.drew _) hG); go_simp; exact hK _ (gives_val)
  apply chain_eq (D := [(28, some 3), (31, some 0)]) rfl (by kernel_rfl)
  · intro ρ W ⟨p1, p2, p3⟩ hG hF K hK; (try simp [FactsD] at hF); have ⟨hc, hf, hz⟩ := bcell (Gr.tr (Gr.drew _) hG); go_simp; exact hK _ (gives_val)
  apply chain_eq (D := [(32, some 0)]) rfl (by kernel_rfl)
  · intro ρ W ⟨p1, p2, p3⟩ hG hF K hK; (try simp [FactsD] at hF); have ⟨hc, hf, hz⟩ := bcell (Gr.tr (Gr.drew _) hG); go_simp; exact hK _ (gives_val)
  apply chain_leq (D := [(4, none), (33, some 0)]) (by kernel_rfl)
  · intro ρ W hF; (try simp [FactsD] at hF); simp [Lets, *]
  · intro ρ W ⟨p1, p2, p3⟩ hG hF K hK; (try simp [FactsD] at hF); have ⟨hc, hf, hz⟩ := bcell (Gr.tr (Gr.drew _) hG); go_simp; exact hK _ (gives_val)
  apply chain_leq (D := [(34, some 0), (33, some 1)]) (by kernel_rfl)
  · intro ρ W hF; (try simp [FactsD] at hF); simp [Lets, *]
  · intro ρ W ⟨p1, p2, p3⟩ hG hF K hK; (try simp [FactsD] at hF); have ⟨hc, hf, hz⟩ := bcell (Gr.tr (Gr.drew _) hG); go_simp; exact hK _ (gives_val)
  apply chain_eq (D := [(33, some 2), (35, some 0)]) rfl (by kernel_rfl)
  · intro ρ W ⟨p1, p2, p3⟩ hG hF K hK; (try simp [FactsD] at hF); have ⟨hc, hf, hz⟩ := bcell (Gr.tr (Gr.drew _) hG); go_simp; exact hK _ (gives_val)
  apply chain_eq (D := [(36, some 0)]) rfl (by kernel_rfl)
  · intro ρ W ⟨p1, p2, p3⟩ hG hF K hK; (try simp [FactsD] at hF); have ⟨hc, hf, hz⟩ := bcell (Gr.tr (Gr.drew _) hG); go_simp; exact hK _ (gives_val)
  apply chain_leq (D := [(5, none), (37, some 0)]) (by kernel_rfl)
  · intro ρ W hF; (try simp [FactsD] at hF); simp [Lets, *]
  · intro ρ W ⟨p1, p2, p3⟩ hG hF K hK; (try simp [FactsD] at hF); have ⟨hc, hf, hz⟩ := bcell (Gr.tr (Gr.drew _) hG); have q0 := (HB5.out.grow (Gr.tr (Gr.drew _) hG)).cell (i := 0) rfl; have q1 := (HB5.out.grow (Gr.tr (Gr.drew _) hG)).cell (i := 1) rfl; go_simp; exact hK _ (gives_val)
  apply chain_leq (D := [(37, some 1)]) (by kernel_rfl)
  · intro ρ W hF; (try simp [FactsD] at hF); simp [Lets, *]
  · intro ρ W ⟨p1, p2, p3⟩ hG hF K hK; (try simp [FactsD] at hF); have ⟨hc, hf, hz⟩ := bcell (Gr.tr (Gr.drew _) hG); go_simp; exact hK _ (gives_call (span47_any 585000 594000 _))
  apply chain_leq (D := [(38, some 1), (39, some 0), (37, some 2)]) (by kernel_rfl)
  · intro ρ W hF; (try simp [FactsD] at hF); simp [Lets, *]
  · intro ρ W ⟨p1, p2, p3⟩ hG hF K hK; (try simp [FactsD] at hF); have ⟨hc, hf, hz⟩ := bcell (Gr.tr (Gr.drew _) hG); go_simp; exact hK _ (gives_val)
  apply chain_eq (D := [(37, some 3), (40, some 0)]) rfl (by kernel_rfl)
  · intro ρ W ⟨p1, p2, p3⟩ hG hF K hK; (try simp [FactsD] at hF); have ⟨hc, hf, hz⟩ := bcell (Gr.tr (Gr.drew _) hG); go_simp; exact hK _ (gives_val)
  apply chain_eq (D := [(41, some 0)]) rfl (by kernel_rfl)
  · intro ρ W ⟨p1, p2, p3⟩ hG hF K hK; (try simp [FactsD] at hF); have ⟨hc, hf, hz⟩ := bcell (Gr.tr (Gr.drew _) hG); go_simp; exact hK _ (gives_val)
  apply chain_leq (D := [(6, none), (42, some 0)]) (by kernel_rfl)
  · intro ρ W hF; (try simp [FactsD] at hF); simp [Lets, *]
  · intro ρ W ⟨p1, p2, p3⟩ hG hF K hK; (try simp [FactsD] at hF); have ⟨hc, hf, hz⟩ := bcell (Gr.tr (Gr.drew _) hG); go_simp; exact hK _ (gives_val)
  apply chain_leq (D := [(43, some 0), (42, some 1)]) (by kernel_rfl)
  · intro ρ W hF; (try simp [FactsD] at hF); simp [Lets, *]
  · intro ρ W ⟨p1, p2, p3⟩ hG hF K hK; (try simp [FactsD] at hF); have ⟨hc, hf, hz⟩ := bcell (Gr.tr (Gr.drew _) hG); go_simp; exact hK _ (gives_val)
  apply chain_eq (D := [(42, some 2), (44, some 0)]) rfl (by kernel_rfl)
  · intro ρ W ⟨p1, p2, p3⟩ hG hF K hK; (try simp [FactsD] at hF); have ⟨hc, hf, hz⟩ := bcell (Gr.tr (Gr.drew _) hG); go_simp; exact hK _ (gives_val)
  apply chain_eq (D := [(45, some 0)]) rfl (by kernel_rfl)
  · intro ρ W ⟨p1, p2, p3⟩ hG hF K hK; (try simp [FactsD] at hF); have ⟨hc, hf, hz⟩ := bcell (Gr.tr (Gr.drew _) hG); go_simp; exact hK _ (gives_val)
  refine chain_done ?_
  intro vs W hG hV
  obtain ⟨e24, -⟩ := hV
  simp only [Nat.reduceSub] at e24
  simp only [lay, Act.put, List.getElem?_toArray, List.getElem?_cons_succ, List.getElem?_cons_zero, Option.bind_some, List.setIfInBounds_toArray, List.set_cons_succ, List.set_cons_zero]
  generalize vs 0 = v0
  generalize vs 1 = v1
  generalize vs 2 = v2
  generalize vs 3 = v3
  generalize vs 4 = v4
  generalize vs 5 = v5
  generalize vs 6 = v6
  generalize vs 7 = v7
  generalize vs 8 = v8
  generalize vs 9 = v9
  generalize vs 10 = v10
  generalize vs 11 = v11
  generalize vs 12 = v12
  generalize vs 13 = v13
  generalize vs 14 = v14
  generalize vs 15 = v15
  generalize vs 16 = v16
  generalize vs 17 = v17
  generalize vs 18 = v18
  generalize vs 19 = v19
  generalize vs 20 = v20
  generalize vs 21 = v21
  generalize vs 22 = v22
  generalize vs 23 = v23
  generalize vs 24 = v24 at *
  subst e24
  obtain ⟨hc, hf, hz⟩ := bcell hG
  go_wp2_with fail
  go_ret
  exact ⟨rfl, by first | exact Gr.tr HG.out hG | exact Gr.tr (HG.out.tr (Gr.drew _)) hG⟩

end Go.Proofs.Ytjlaoiimbhlafaa
