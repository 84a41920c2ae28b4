import Derived.Test.YtofdoadpaedogaaT30
namespace Go.Proofs.Ytofdoadpaedogaa
open Go.RowKit

def SmpVal (v : Value) : Value := .agg #[.int .i64 9000, .int .i64 9000, .int .i64 65, .int .i64 66, .int .i64 5, .int .i64 2000, .int .i64 100000, v]
theorem sample_agg (w : World) : Calls Try.prog 40 #[] w fun e w' => (∃ v, e = .returned (.agg #[.int .i64 9000, .int .i64 9000, .int .i64 65, .int .i64 66, .int .i64 5, .int .i64 2000, .int .i64 100000, v]) ∧ ThingsAt smp.l v w') ∧ Below w.heap.size w w' := sample_any w
theorem smp_shift : smp.shift 2 = (-6, -3, 0) := by kernel_rfl
theorem shift_smp (v : Value) (w : World) (h : ThingsAt smp.l v w) : Calls Try.prog 13 #[.agg #[.int .i64 9000, .int .i64 9000, .int .i64 65, .int .i64 66, .int .i64 5, .int .i64 2000, .int .i64 100000, v], .int .i64 2] w fun e w' => e = .returned (.tuple #[.agg #[.int .i64 (-6), .int .i64 (-3)], .int .i64 0]) ∧ Below w.heap.size w w' := by
  have := Shift_spec smp v 2 w h
  rw [smp_shift] at this
  exact this
theorem smp_nearer : smp.nearer 0 1 = (2, 0) := by kernel_rfl
theorem nearer_smp (v : Value) (w : World) (h : ThingsAt smp.l v w) : Calls Try.prog 15 #[.agg #[.int .i64 9000, .int .i64 9000, .int .i64 65, .int .i64 66, .int .i64 5, .int .i64 2000, .int .i64 100000, v], .int .i64 0, .int .i64 1] w fun e w' => e = .returned (.tuple #[.int .i64 2, .int .i64 0]) ∧ Below w.heap.size w w' := by
  have := Nearer_spec smp v 0 1 w h
  rw [smp_nearer] at this
  exact this
theorem smp_power : smp.power = (585000, 593999, 0) := by kernel_rfl
theorem power_smp (v : Value) (w : World) (h : ThingsAt smp.l v w) : Calls Try.prog 17 #[.agg #[.int .i64 9000, .int .i64 9000, .int .i64 65, .int .i64 66, .int .i64 5, .int .i64 2000, .int .i64 100000, v]] w fun e w' => e = .returned (.tuple #[.agg #[.int .i64 585000, .int .i64 593999], .int .i64 0]) ∧ Below w.heap.size w w' := by
  have := Power_spec smp v  w h
  rw [smp_power] at this
  exact this
theorem smp_stands : smp.stands 10000 = (58, 59, 0) := by kernel_rfl
theorem stands_smp (v : Value) (w : World) (h : ThingsAt smp.l v w) : Calls Try.prog 19 #[.agg #[.int .i64 9000, .int .i64 9000, .int .i64 65, .int .i64 66, .int .i64 5, .int .i64 2000, .int .i64 100000, v], .int .i64 10000] w fun e w' => e = .returned (.tuple #[.agg #[.int .i64 58, .int .i64 59], .int .i64 0]) ∧ Below w.heap.size w w' := by
  have := Stands_spec smp v 10000 w h
  rw [smp_stands] at this
  exact this
theorem smp_why : smp.why 4 = (1, 0) := by kernel_rfl
theorem why_smp (v : Value) (w : World) (h : ThingsAt smp.l v w) : Calls Try.prog 21 #[.agg #[.int .i64 9000, .int .i64 9000, .int .i64 65, .int .i64 66, .int .i64 5, .int .i64 2000, .int .i64 100000, v], .int .i64 4] w fun e w' => e = .returned (.tuple #[.int .i64 1, .int .i64 0]) ∧ Below w.heap.size w w' := by
  have := Why_spec smp v 4 w h
  rw [smp_why] at this
  exact this
theorem smp_distance : smp.distance 1 = (9591, 10241, 0) := by kernel_rfl
theorem distance_smp (v : Value) (w : World) (h : ThingsAt smp.l v w) : Calls Try.prog 23 #[.agg #[.int .i64 9000, .int .i64 9000, .int .i64 65, .int .i64 66, .int .i64 5, .int .i64 2000, .int .i64 100000, v], .int .i64 1] w fun e w' => e = .returned (.tuple #[.agg #[.int .i64 9591, .int .i64 10241], .int .i64 0]) ∧ Below w.heap.size w w' := by
  have := Distance_spec smp v 1 w h
  rw [smp_distance] at this
  exact this
theorem smp_fewest : smp.fewest = (60, 585000, 593999, 0) := by kernel_rfl
theorem fewest_smp (v : Value) (w : World) (h : ThingsAt smp.l v w) : Calls Try.prog 25 #[.agg #[.int .i64 9000, .int .i64 9000, .int .i64 65, .int .i64 66, .int .i64 5, .int .i64 2000, .int .i64 100000, v]] w fun e w' => e = .returned (.tuple #[.int .i64 60, .agg #[.int .i64 585000, .int .i64 593999], .int .i64 0]) ∧ Below w.heap.size w w' := by
  have := Fewest_spec smp v  w h
  rw [smp_fewest] at this
  exact this
set_option maxRecDepth 100000 in
set_option maxHeartbeats 4000000 in
theorem awake_any (w : World) : Calls Try.prog 12 #[] w fun e w' => e = .returned (.bool true) ∧ Below w.heap.size w w' := by
  go_enter Try.func12, Try.ntmps12
  go_wp2_with fail
  refine (sample_agg _).mono ?_
  rintro e w1 ⟨⟨v0, rfl, hv0⟩, hb1⟩
  have gg0 : Gr w w1 := hb1
  have hg1 : Gr w w1 := gg0
  go_wp2_with fail
  refine (shift_smp _ _ hv0).mono ?_
  rintro e w2 ⟨rfl, hb2⟩
  have hg2 : Gr w w2 := Gr.tr hg1 hb2
  clear hb1 hb2 gg0
  go_wp2_with fail
  refine (sample_agg _).mono ?_
  rintro e w3 ⟨⟨v1, rfl, hv1⟩, hb3⟩
  have k2 : w2.heap.size < w3.heap.size := Nat.lt_of_lt_of_le (by simp) hb3.size
  have gg1 : Gr w2 w3 := (Gr.alloc _ _).tr hb3
  have y20 := ((bcell hb3).1 w2.heap.size 0 (by simp)).trans (show _ = some (.int .i64 (-6)) by simp)
  have y21 := ((bcell hb3).1 w2.heap.size 1 (by simp)).trans (show _ = some (.int .i64 (-3)) by simp)
  have hg3 : Gr w w3 := Gr.tr hg2 gg1
  go_wp2_with fail
  refine (nearer_smp _ _ hv1).mono ?_
  rintro e w4 ⟨rfl, hb4⟩
  have y20 := ((bcell hb4).1 w2.heap.size 0 k2).trans y20
  have y21 := ((bcell hb4).1 w2.heap.size 1 k2).trans y21
  have k2_ : w2.heap.size < w4.heap.size := Nat.lt_of_lt_of_le k2 hb4.size
  have hg4 : Gr w w4 := Gr.tr hg3 hb4
  clear hb3 hb4 gg1
  go_wp2_with fail
  refine (sample_agg _).mono ?_
  rintro e w5 ⟨⟨v2, rfl, hv2⟩, hb5⟩
  have gg2 : Gr w4 w5 := hb5
  have y20 := ((bcell gg2).1 w2.heap.size 0 k2_).trans y20
  have y21 := ((bcell gg2).1 w2.heap.size 1 k2_).trans y21
  have k2 : w2.heap.size < w5.heap.size := Nat.lt_of_lt_of_le k2_ gg2.size
  have hg5 : Gr w w5 := Gr.tr hg4 gg2
  go_wp2_with fail
  refine (power_smp _ _ hv2).mono ?_
  rintro e w6 ⟨rfl, hb6⟩
  have y20 := ((bcell hb6).1 w2.heap.size 0 k2).trans y20
  have y21 := ((bcell hb6).1 w2.heap.size 1 k2).trans y21
  have k2_ : w2.heap.size < w6.heap.size := Nat.lt_of_lt_of_le k2 hb6.size
  have hg6 : Gr w w6 := Gr.tr hg5 hb6
  clear hb5 hb6 gg2
  go_wp2_with fail
  refine (sample_agg _).mono ?_
  rintro e w7 ⟨⟨v3, rfl, hv3⟩, hb7⟩
  have k6 : w6.heap.size < w7.heap.size := Nat.lt_of_lt_of_le (by simp) hb7.size
  have gg3 : Gr w6 w7 := (Gr.alloc _ _).tr hb7
  have y20 := ((bcell gg3).1 w2.heap.size 0 k2_).trans y20
  have y21 := ((bcell gg3).1 w2.heap.size 1 k2_).trans y21
  have k2 : w2.heap.size < w7.heap.size := Nat.lt_of_lt_of_le k2_ gg3.size
  have y60 := ((bcell hb7).1 w6.heap.size 0 (by simp)).trans (show _ = some (.int .i64 (585000)) by simp)
  have y61 := ((bcell hb7).1 w6.heap.size 1 (by simp)).trans (show _ = some (.int .i64 (593999)) by simp)
  have hg7 : Gr w w7 := Gr.tr hg6 gg3
  go_wp2_with fail
  refine (stands_smp _ _ hv3).mono ?_
  rintro e w8 ⟨rfl, hb8⟩
  have y20 := ((bcell hb8).1 w2.heap.size 0 k2).trans y20
  have y21 := ((bcell hb8).1 w2.heap.size 1 k2).trans y21
  have k2_ : w2.heap.size < w8.heap.size := Nat.lt_of_lt_of_le k2 hb8.size
  have y60 := ((bcell hb8).1 w6.heap.size 0 k6).trans y60
  have y61 := ((bcell hb8).1 w6.heap.size 1 k6).trans y61
  have k6_ : w6.heap.size < w8.heap.size := Nat.lt_of_lt_of_le k6 hb8.size
  have hg8 : Gr w w8 := Gr.tr hg7 hb8
  clear hb7 hb8 gg3
  go_wp2_with fail
  refine (sample_agg _).mono ?_
  rintro e w9 ⟨⟨v4, rfl, hv4⟩, hb9⟩
  have k8 : w8.heap.size < w9.heap.size := Nat.lt_of_lt_of_le (by simp) hb9.size
  have gg4 : Gr w8 w9 := (Gr.alloc _ _).tr hb9
  have y20 := ((bcell gg4).1 w2.heap.size 0 k2_).trans y20
  have y21 := ((bcell gg4).1 w2.heap.size 1 k2_).trans y21
  have k2 : w2.heap.size < w9.heap.size := Nat.lt_of_lt_of_le k2_ gg4.size
  have y60 := ((bcell gg4).1 w6.heap.size 0 k6_).trans y60
  have y61 := ((bcell gg4).1 w6.heap.size 1 k6_).trans y61
  have k6 : w6.heap.size < w9.heap.size := Nat.lt_of_lt_of_le k6_ gg4.size
  have y80 := ((bcell hb9).1 w8.heap.size 0 (by simp)).trans (show _ = some (.int .i64 (58)) by simp)
  have y81 := ((bcell hb9).1 w8.heap.size 1 (by simp)).trans (show _ = some (.int .i64 (59)) by simp)
  have hg9 : Gr w w9 := Gr.tr hg8 gg4
  go_wp2_with fail
  refine (why_smp _ _ hv4).mono ?_
  rintro e w10 ⟨rfl, hb10⟩
  have y20 := ((bcell hb10).1 w2.heap.size 0 k2).trans y20
  have y21 := ((bcell hb10).1 w2.heap.size 1 k2).trans y21
  have k2_ : w2.heap.size < w10.heap.size := Nat.lt_of_lt_of_le k2 hb10.size
  have y60 := ((bcell hb10).1 w6.heap.size 0 k6).trans y60
  have y61 := ((bcell hb10).1 w6.heap.size 1 k6).trans y61
  have k6_ : w6.heap.size < w10.heap.size := Nat.lt_of_lt_of_le k6 hb10.size
  have y80 := ((bcell hb10).1 w8.heap.size 0 k8).trans y80
  have y81 := ((bcell hb10).1 w8.heap.size 1 k8).trans y81
  have k8_ : w8.heap.size < w10.heap.size := Nat.lt_of_lt_of_le k8 hb10.size
  have hg10 : Gr w w10 := Gr.tr hg9 hb10
  clear hb9 hb10 gg4
  go_wp2_with fail
  refine (sample_agg _).mono ?_
  rintro e w11 ⟨⟨v5, rfl, hv5⟩, hb11⟩
  have gg5 : Gr w10 w11 := hb11
  have y20 := ((bcell gg5).1 w2.heap.size 0 k2_).trans y20
  have y21 := ((bcell gg5).1 w2.heap.size 1 k2_).trans y21
  have k2 : w2.heap.size < w11.heap.size := Nat.lt_of_lt_of_le k2_ gg5.size
  have y60 := ((bcell gg5).1 w6.heap.size 0 k6_).trans y60
  have y61 := ((bcell gg5).1 w6.heap.size 1 k6_).trans y61
  have k6 : w6.heap.size < w11.heap.size := Nat.lt_of_lt_of_le k6_ gg5.size
  have y80 := ((bcell gg5).1 w8.heap.size 0 k8_).trans y80
  have y81 := ((bcell gg5).1 w8.heap.size 1 k8_).trans y81
  have k8 : w8.heap.size < w11.heap.size := Nat.lt_of_lt_of_le k8_ gg5.size
  have hg11 : Gr w w11 := Gr.tr hg10 gg5
  go_wp2_with fail
  refine (distance_smp _ _ hv5).mono ?_
  rintro e w12 ⟨rfl, hb12⟩
  have y20 := ((bcell hb12).1 w2.heap.size 0 k2).trans y20
  have y21 := ((bcell hb12).1 w2.heap.size 1 k2).trans y21
  have k2_ : w2.heap.size < w12.heap.size := Nat.lt_of_lt_of_le k2 hb12.size
  have y60 := ((bcell hb12).1 w6.heap.size 0 k6).trans y60
  have y61 := ((bcell hb12).1 w6.heap.size 1 k6).trans y61
  have k6_ : w6.heap.size < w12.heap.size := Nat.lt_of_lt_of_le k6 hb12.size
  have y80 := ((bcell hb12).1 w8.heap.size 0 k8).trans y80
  have y81 := ((bcell hb12).1 w8.heap.size 1 k8).trans y81
  have k8_ : w8.heap.size < w12.heap.size := Nat.lt_of_lt_of_le k8 hb12.size
  have hg12 : Gr w w12 := Gr.tr hg11 hb12
  clear hb11 hb12 gg5
  go_wp2_with fail
  refine (sample_agg _).mono ?_
  rintro e w13 ⟨⟨v6, rfl, hv6⟩, hb13⟩
  have k12 : w12.heap.size < w13.heap.size := Nat.lt_of_lt_of_le (by simp) hb13.size
  have gg6 : Gr w12 w13 := (Gr.alloc _ _).tr hb13
  have y20 := ((bcell gg6).1 w2.heap.size 0 k2_).trans y20
  have y21 := ((bcell gg6).1 w2.heap.size 1 k2_).trans y21
  have k2 : w2.heap.size < w13.heap.size := Nat.lt_of_lt_of_le k2_ gg6.size
  have y60 := ((bcell gg6).1 w6.heap.size 0 k6_).trans y60
  have y61 := ((bcell gg6).1 w6.heap.size 1 k6_).trans y61
  have k6 : w6.heap.size < w13.heap.size := Nat.lt_of_lt_of_le k6_ gg6.size
  have y80 := ((bcell gg6).1 w8.heap.size 0 k8_).trans y80
  have y81 := ((bcell gg6).1 w8.heap.size 1 k8_).trans y81
  have k8 : w8.heap.size < w13.heap.size := Nat.lt_of_lt_of_le k8_ gg6.size
  have y120 := ((bcell hb13).1 w12.heap.size 0 (by simp)).trans (show _ = some (.int .i64 (9591)) by simp)
  have y121 := ((bcell hb13).1 w12.heap.size 1 (by simp)).trans (show _ = some (.int .i64 (10241)) by simp)
  have hg13 : Gr w w13 := Gr.tr hg12 gg6
  go_wp2_with fail
  refine (fewest_smp _ _ hv6).mono ?_
  rintro e w14 ⟨rfl, hb14⟩
  have y20 := ((bcell hb14).1 w2.heap.size 0 k2).trans y20
  have y21 := ((bcell hb14).1 w2.heap.size 1 k2).trans y21
  have k2_ : w2.heap.size < w14.heap.size := Nat.lt_of_lt_of_le k2 hb14.size
  have y60 := ((bcell hb14).1 w6.heap.size 0 k6).trans y60
  have y61 := ((bcell hb14).1 w6.heap.size 1 k6).trans y61
  have k6_ : w6.heap.size < w14.heap.size := Nat.lt_of_lt_of_le k6 hb14.size
  have y80 := ((bcell hb14).1 w8.heap.size 0 k8).trans y80
  have y81 := ((bcell hb14).1 w8.heap.size 1 k8).trans y81
  have k8_ : w8.heap.size < w14.heap.size := Nat.lt_of_lt_of_le k8 hb14.size
  have y120 := ((bcell hb14).1 w12.heap.size 0 k12).trans y120
  have y121 := ((bcell hb14).1 w12.heap.size 1 k12).trans y121
  have k12_ : w12.heap.size < w14.heap.size := Nat.lt_of_lt_of_le k12 hb14.size
  have hg14 : Gr w w14 := Gr.tr hg13 hb14
  clear hb13 hb14 gg6
  have k2p : w2.heap.size < w14.heap.size + 1 := Nat.lt_succ_of_lt k2_
  have k2n : w2.heap.size ≠ w14.heap.size := Nat.ne_of_lt k2_
  have k2m : w14.heap.size ≠ w2.heap.size := (Nat.ne_of_lt k2_).symm
  have k6p : w6.heap.size < w14.heap.size + 1 := Nat.lt_succ_of_lt k6_
  have k6n : w6.heap.size ≠ w14.heap.size := Nat.ne_of_lt k6_
  have k6m : w14.heap.size ≠ w6.heap.size := (Nat.ne_of_lt k6_).symm
  have k8p : w8.heap.size < w14.heap.size + 1 := Nat.lt_succ_of_lt k8_
  have k8n : w8.heap.size ≠ w14.heap.size := Nat.ne_of_lt k8_
  have k8m : w14.heap.size ≠ w8.heap.size := (Nat.ne_of_lt k8_).symm
  have k12p : w12.heap.size < w14.heap.size + 1 := Nat.lt_succ_of_lt k12_
  have k12n : w12.heap.size ≠ w14.heap.size := Nat.ne_of_lt k12_
  have k12m : w14.heap.size ≠ w12.heap.size := (Nat.ne_of_lt k12_).symm
  go_wp2_with fail
  refine region2 63 ?_ ?_ ?_
  · kernel_rfl
  · kernel_rfl
  simp only [List.take_succ_cons, List.take_zero, List.drop_succ_cons, List.drop_zero]
  apply chain_eq (D := [(1, none)]) rfl (by kernel_rfl)
  · intro ρ W ⟨p1, p2, p3⟩ hG hF K hK; (try simp [FactsD] at hF); have ⟨hc, hf, hz⟩ := bcell (Gr.tr (Gr.drew _) hG); go_simp; exact hK _ (gives_val)
  apply chain_eq (D := []) rfl (by kernel_rfl)
  · intro ρ W ⟨p1, p2, p3⟩ hG hF K hK; (try simp [FactsD] at hF); have ⟨hc, hf, hz⟩ := bcell (Gr.tr (Gr.drew _) hG); go_simp; exact hK _ (gives_call (lspan_any _ _ _))
  apply chain_eq (D := [(52, some 1), (53, some 0)]) rfl (by kernel_rfl)
  · intro ρ W ⟨p1, p2, p3⟩ hG hF K hK; (try simp [FactsD] at hF); have ⟨hc, hf, hz⟩ := bcell (Gr.tr (Gr.drew _) hG); go_simp; exact hK _ (gives_val)
  apply chain_eq (D := [(54, some 0)]) rfl (by kernel_rfl)
  · intro ρ W ⟨p1, p2, p3⟩ hG hF K hK; (try simp [FactsD] at hF); have ⟨hc, hf, hz⟩ := bcell (Gr.tr (Gr.drew _) hG); go_simp; exact hK _ (gives_val)
  apply chain_leq (D := [(2, none), (55, some 0)]) (by kernel_rfl)
  · intro ρ W hF; (try simp [FactsD] at hF); simp [Lets, *]
  · intro ρ W ⟨p1, p2, p3⟩ hG hF K hK; (try simp [FactsD] at hF); have ⟨hc, hf, hz⟩ := bcell (Gr.tr (Gr.drew _) hG); go_simp; exact hK _ (gives_val)
  apply chain_leq (D := [(56, some 0), (55, some 1)]) (by kernel_rfl)
  · intro ρ W hF; (try simp [FactsD] at hF); simp [Lets, *]
  · intro ρ W ⟨p1, p2, p3⟩ hG hF K hK; (try simp [FactsD] at hF); have ⟨hc, hf, hz⟩ := bcell (Gr.tr (Gr.drew _) hG); go_simp; exact hK _ (gives_val)
  apply chain_eq (D := [(55, some 2), (57, some 0)]) rfl (by kernel_rfl)
  · intro ρ W ⟨p1, p2, p3⟩ hG hF K hK; (try simp [FactsD] at hF); have ⟨hc, hf, hz⟩ := bcell (Gr.tr (Gr.drew _) hG); go_simp; exact hK _ (gives_val)
  apply chain_eq (D := [(58, some 0)]) rfl (by kernel_rfl)
  · intro ρ W ⟨p1, p2, p3⟩ hG hF K hK; (try simp [FactsD] at hF); have ⟨hc, hf, hz⟩ := bcell (Gr.tr (Gr.drew _) hG); go_simp; exact hK _ (gives_val)
  apply chain_leq (D := [(3, none), (59, some 0)]) (by kernel_rfl)
  · intro ρ W hF; (try simp [FactsD] at hF); simp [Lets, *]
  · intro ρ W ⟨p1, p2, p3⟩ hG hF K hK; (try simp [FactsD] at hF); have ⟨hc, hf, hz⟩ := bcell (Gr.tr (Gr.drew _) hG); go_simp; exact hK _ (gives_val)
  apply chain_leq (D := [(60, some 0), (59, some 1)]) (by kernel_rfl)
  · intro ρ W hF; (try simp [FactsD] at hF); simp [Lets, *]
  · intro ρ W ⟨p1, p2, p3⟩ hG hF K hK; (try simp [FactsD] at hF); have ⟨hc, hf, hz⟩ := bcell (Gr.tr (Gr.drew _) hG); go_simp; exact hK _ (gives_val)
  apply chain_eq (D := [(59, some 2), (61, some 0)]) rfl (by kernel_rfl)
  · intro ρ W ⟨p1, p2, p3⟩ hG hF K hK; (try simp [FactsD] at hF); have ⟨hc, hf, hz⟩ := bcell (Gr.tr (Gr.drew _) hG); go_simp; exact hK _ (gives_val)
  apply chain_eq (D := [(62, some 0)]) rfl (by kernel_rfl)
  · intro ρ W ⟨p1, p2, p3⟩ hG hF K hK; (try simp [FactsD] at hF); have ⟨hc, hf, hz⟩ := bcell (Gr.tr (Gr.drew _) hG); go_simp; exact hK _ (gives_val)
  apply chain_leq (D := [(4, none), (63, some 0)]) (by kernel_rfl)
  · intro ρ W hF; (try simp [FactsD] at hF); simp [Lets, *]
  · intro ρ W ⟨p1, p2, p3⟩ hG hF K hK; (try simp [FactsD] at hF); have ⟨hc, hf, hz⟩ := bcell (Gr.tr (Gr.drew _) hG); go_simp; exact hK _ (gives_val)
  apply chain_leq (D := [(64, some 0), (63, some 1)]) (by kernel_rfl)
  · intro ρ W hF; (try simp [FactsD] at hF); simp [Lets, *]
  · intro ρ W ⟨p1, p2, p3⟩ hG hF K hK; (try simp [FactsD] at hF); have ⟨hc, hf, hz⟩ := bcell (Gr.tr (Gr.drew _) hG); go_simp; exact hK _ (gives_val)
  apply chain_eq (D := [(63, some 2), (65, some 0)]) rfl (by kernel_rfl)
  · intro ρ W ⟨p1, p2, p3⟩ hG hF K hK; (try simp [FactsD] at hF); have ⟨hc, hf, hz⟩ := bcell (Gr.tr (Gr.drew _) hG); go_simp; exact hK _ (gives_val)
  apply chain_eq (D := [(66, some 0)]) rfl (by kernel_rfl)
  · intro ρ W ⟨p1, p2, p3⟩ hG hF K hK; (try simp [FactsD] at hF); have ⟨hc, hf, hz⟩ := bcell (Gr.tr (Gr.drew _) hG); go_simp; exact hK _ (gives_val)
  apply chain_leq (D := [(5, none), (67, some 0)]) (by kernel_rfl)
  · intro ρ W hF; (try simp [FactsD] at hF); simp [Lets, *]
  · intro ρ W ⟨p1, p2, p3⟩ hG hF K hK; (try simp [FactsD] at hF); have ⟨hc, hf, hz⟩ := bcell (Gr.tr (Gr.drew _) hG); go_simp; exact hK _ (gives_val)
  apply chain_leq (D := [(67, some 1)]) (by kernel_rfl)
  · intro ρ W hF; (try simp [FactsD] at hF); simp [Lets, *]
  · intro ρ W ⟨p1, p2, p3⟩ hG hF K hK; (try simp [FactsD] at hF); have ⟨hc, hf, hz⟩ := bcell (Gr.tr (Gr.drew _) hG); go_simp; exact hK _ (gives_call (lspan_any _ _ _))
  apply chain_leq (D := [(68, some 1), (69, some 0), (67, some 2)]) (by kernel_rfl)
  · intro ρ W hF; (try simp [FactsD] at hF); simp [Lets, *]
  · intro ρ W ⟨p1, p2, p3⟩ hG hF K hK; (try simp [FactsD] at hF); have ⟨hc, hf, hz⟩ := bcell (Gr.tr (Gr.drew _) hG); go_simp; exact hK _ (gives_val)
  apply chain_eq (D := [(67, some 3), (70, some 0)]) rfl (by kernel_rfl)
  · intro ρ W ⟨p1, p2, p3⟩ hG hF K hK; (try simp [FactsD] at hF); have ⟨hc, hf, hz⟩ := bcell (Gr.tr (Gr.drew _) hG); go_simp; exact hK _ (gives_val)
  apply chain_eq (D := [(71, some 0)]) rfl (by kernel_rfl)
  · intro ρ W ⟨p1, p2, p3⟩ hG hF K hK; (try simp [FactsD] at hF); have ⟨hc, hf, hz⟩ := bcell (Gr.tr (Gr.drew _) hG); go_simp; exact hK _ (gives_val)
  apply chain_leq (D := [(6, none), (72, some 0)]) (by kernel_rfl)
  · intro ρ W hF; (try simp [FactsD] at hF); simp [Lets, *]
  · intro ρ W ⟨p1, p2, p3⟩ hG hF K hK; (try simp [FactsD] at hF); have ⟨hc, hf, hz⟩ := bcell (Gr.tr (Gr.drew _) hG); go_simp; exact hK _ (gives_val)
  apply chain_leq (D := [(73, some 0), (72, some 1)]) (by kernel_rfl)
  · intro ρ W hF; (try simp [FactsD] at hF); simp [Lets, *]
  · intro ρ W ⟨p1, p2, p3⟩ hG hF K hK; (try simp [FactsD] at hF); have ⟨hc, hf, hz⟩ := bcell (Gr.tr (Gr.drew _) hG); go_simp; exact hK _ (gives_val)
  apply chain_eq (D := [(72, some 2), (74, some 0)]) rfl (by kernel_rfl)
  · intro ρ W ⟨p1, p2, p3⟩ hG hF K hK; (try simp [FactsD] at hF); have ⟨hc, hf, hz⟩ := bcell (Gr.tr (Gr.drew _) hG); go_simp; exact hK _ (gives_val)
  apply chain_eq (D := [(75, some 0)]) rfl (by kernel_rfl)
  · intro ρ W ⟨p1, p2, p3⟩ hG hF K hK; (try simp [FactsD] at hF); have ⟨hc, hf, hz⟩ := bcell (Gr.tr (Gr.drew _) hG); go_simp; exact hK _ (gives_val)
  apply chain_leq (D := [(7, none), (76, some 0)]) (by kernel_rfl)
  · intro ρ W hF; (try simp [FactsD] at hF); simp [Lets, *]
  · intro ρ W ⟨p1, p2, p3⟩ hG hF K hK; (try simp [FactsD] at hF); have ⟨hc, hf, hz⟩ := bcell (Gr.tr (Gr.drew _) hG); go_simp; exact hK _ (gives_val)
  apply chain_leq (D := [(76, some 1)]) (by kernel_rfl)
  · intro ρ W hF; (try simp [FactsD] at hF); simp [Lets, *]
  · intro ρ W ⟨p1, p2, p3⟩ hG hF K hK; (try simp [FactsD] at hF); have ⟨hc, hf, hz⟩ := bcell (Gr.tr (Gr.drew _) hG); go_simp; exact hK _ (gives_call (lspan_any _ _ _))
  apply chain_leq (D := [(77, some 1), (78, some 0), (76, some 2)]) (by kernel_rfl)
  · intro ρ W hF; (try simp [FactsD] at hF); simp [Lets, *]
  · intro ρ W ⟨p1, p2, p3⟩ hG hF K hK; (try simp [FactsD] at hF); have ⟨hc, hf, hz⟩ := bcell (Gr.tr (Gr.drew _) hG); go_simp; exact hK _ (gives_val)
  apply chain_eq (D := [(76, some 3), (79, some 0)]) rfl (by kernel_rfl)
  · intro ρ W ⟨p1, p2, p3⟩ hG hF K hK; (try simp [FactsD] at hF); have ⟨hc, hf, hz⟩ := bcell (Gr.tr (Gr.drew _) hG); go_simp; exact hK _ (gives_val)
  apply chain_eq (D := [(80, some 0)]) rfl (by kernel_rfl)
  · intro ρ W ⟨p1, p2, p3⟩ hG hF K hK; (try simp [FactsD] at hF); have ⟨hc, hf, hz⟩ := bcell (Gr.tr (Gr.drew _) hG); go_simp; exact hK _ (gives_val)
  apply chain_leq (D := [(8, none), (81, some 0)]) (by kernel_rfl)
  · intro ρ W hF; (try simp [FactsD] at hF); simp [Lets, *]
  · intro ρ W ⟨p1, p2, p3⟩ hG hF K hK; (try simp [FactsD] at hF); have ⟨hc, hf, hz⟩ := bcell (Gr.tr (Gr.drew _) hG); go_simp; exact hK _ (gives_val)
  apply chain_leq (D := [(82, some 0), (81, some 1)]) (by kernel_rfl)
  · intro ρ W hF; (try simp [FactsD] at hF); simp [Lets, *]
  · intro ρ W ⟨p1, p2, p3⟩ hG hF K hK; (try simp [FactsD] at hF); have ⟨hc, hf, hz⟩ := bcell (Gr.tr (Gr.drew _) hG); go_simp; exact hK _ (gives_val)
  apply chain_eq (D := [(81, some 2), (83, some 0)]) rfl (by kernel_rfl)
  · intro ρ W ⟨p1, p2, p3⟩ hG hF K hK; (try simp [FactsD] at hF); have ⟨hc, hf, hz⟩ := bcell (Gr.tr (Gr.drew _) hG); go_simp; exact hK _ (gives_val)
  apply chain_eq (D := [(84, some 0)]) rfl (by kernel_rfl)
  · intro ρ W ⟨p1, p2, p3⟩ hG hF K hK; (try simp [FactsD] at hF); have ⟨hc, hf, hz⟩ := bcell (Gr.tr (Gr.drew _) hG); go_simp; exact hK _ (gives_val)
  apply chain_leq (D := [(9, none), (85, some 0)]) (by kernel_rfl)
  · intro ρ W hF; (try simp [FactsD] at hF); simp [Lets, *]
  · intro ρ W ⟨p1, p2, p3⟩ hG hF K hK; (try simp [FactsD] at hF); have ⟨hc, hf, hz⟩ := bcell (Gr.tr (Gr.drew _) hG); go_simp; exact hK _ (gives_val)
  apply chain_leq (D := [(86, some 0), (85, some 1)]) (by kernel_rfl)
  · intro ρ W hF; (try simp [FactsD] at hF); simp [Lets, *]
  · intro ρ W ⟨p1, p2, p3⟩ hG hF K hK; (try simp [FactsD] at hF); have ⟨hc, hf, hz⟩ := bcell (Gr.tr (Gr.drew _) hG); go_simp; exact hK _ (gives_val)
  apply chain_eq (D := [(85, some 2), (87, some 0)]) rfl (by kernel_rfl)
  · intro ρ W ⟨p1, p2, p3⟩ hG hF K hK; (try simp [FactsD] at hF); have ⟨hc, hf, hz⟩ := bcell (Gr.tr (Gr.drew _) hG); go_simp; exact hK _ (gives_val)
  apply chain_eq (D := [(88, some 0)]) rfl (by kernel_rfl)
  · intro ρ W ⟨p1, p2, p3⟩ hG hF K hK; (try simp [FactsD] at hF); have ⟨hc, hf, hz⟩ := bcell (Gr.tr (Gr.drew _) hG); go_simp; exact hK _ (gives_val)
  apply chain_leq (D := [(10, none), (89, some 0)]) (by kernel_rfl)
  · intro ρ W hF; (try simp [FactsD] at hF); simp [Lets, *]
  · intro ρ W ⟨p1, p2, p3⟩ hG hF K hK; (try simp [FactsD] at hF); have ⟨hc, hf, hz⟩ := bcell (Gr.tr (Gr.drew _) hG); go_simp; exact hK _ (gives_val)
  apply chain_leq (D := [(90, some 0), (89, some 1)]) (by kernel_rfl)
  · intro ρ W hF; (try simp [FactsD] at hF); simp [Lets, *]
  · intro ρ W ⟨p1, p2, p3⟩ hG hF K hK; (try simp [FactsD] at hF); have ⟨hc, hf, hz⟩ := bcell (Gr.tr (Gr.drew _) hG); go_simp; exact hK _ (gives_val)
  apply chain_eq (D := [(89, some 2), (91, some 0)]) rfl (by kernel_rfl)
  · intro ρ W ⟨p1, p2, p3⟩ hG hF K hK; (try simp [FactsD] at hF); have ⟨hc, hf, hz⟩ := bcell (Gr.tr (Gr.drew _) hG); go_simp; exact hK _ (gives_val)
  apply chain_eq (D := [(92, some 0)]) rfl (by kernel_rfl)
  · intro ρ W ⟨p1, p2, p3⟩ hG hF K hK; (try simp [FactsD] at hF); have ⟨hc, hf, hz⟩ := bcell (Gr.tr (Gr.drew _) hG); go_simp; exact hK _ (gives_val)
  apply chain_leq (D := [(11, none), (93, some 0)]) (by kernel_rfl)
  · intro ρ W hF; (try simp [FactsD] at hF); simp [Lets, *]
  · intro ρ W ⟨p1, p2, p3⟩ hG hF K hK; (try simp [FactsD] at hF); have ⟨hc, hf, hz⟩ := bcell (Gr.tr (Gr.drew _) hG); go_simp; exact hK _ (gives_val)
  apply chain_leq (D := [(93, some 1)]) (by kernel_rfl)
  · intro ρ W hF; (try simp [FactsD] at hF); simp [Lets, *]
  · intro ρ W ⟨p1, p2, p3⟩ hG hF K hK; (try simp [FactsD] at hF); have ⟨hc, hf, hz⟩ := bcell (Gr.tr (Gr.drew _) hG); go_simp; exact hK _ (gives_call (lspan_any _ _ _))
  apply chain_leq (D := [(94, some 1), (95, some 0), (93, some 2)]) (by kernel_rfl)
  · intro ρ W hF; (try simp [FactsD] at hF); simp [Lets, *]
  · intro ρ W ⟨p1, p2, p3⟩ hG hF K hK; (try simp [FactsD] at hF); have ⟨hc, hf, hz⟩ := bcell (Gr.tr (Gr.drew _) hG); go_simp; exact hK _ (gives_val)
  apply chain_eq (D := [(93, some 3), (96, some 0)]) rfl (by kernel_rfl)
  · intro ρ W ⟨p1, p2, p3⟩ hG hF K hK; (try simp [FactsD] at hF); have ⟨hc, hf, hz⟩ := bcell (Gr.tr (Gr.drew _) hG); go_simp; exact hK _ (gives_val)
  apply chain_eq (D := [(97, some 0)]) rfl (by kernel_rfl)
  · intro ρ W ⟨p1, p2, p3⟩ hG hF K hK; (try simp [FactsD] at hF); have ⟨hc, hf, hz⟩ := bcell (Gr.tr (Gr.drew _) hG); go_simp; exact hK _ (gives_val)
  apply chain_leq (D := [(12, none), (98, some 0)]) (by kernel_rfl)
  · intro ρ W hF; (try simp [FactsD] at hF); simp [Lets, *]
  · intro ρ W ⟨p1, p2, p3⟩ hG hF K hK; (try simp [FactsD] at hF); have ⟨hc, hf, hz⟩ := bcell (Gr.tr (Gr.drew _) hG); go_simp; exact hK _ (gives_val)
  apply chain_leq (D := [(99, some 0), (98, some 1)]) (by kernel_rfl)
  · intro ρ W hF; (try simp [FactsD] at hF); simp [Lets, *]
  · intro ρ W ⟨p1, p2, p3⟩ hG hF K hK; (try simp [FactsD] at hF); have ⟨hc, hf, hz⟩ := bcell (Gr.tr (Gr.drew _) hG); go_simp; exact hK _ (gives_val)
  apply chain_eq (D := [(98, some 2), (100, some 0)]) rfl (by kernel_rfl)
  · intro ρ W ⟨p1, p2, p3⟩ hG hF K hK; (try simp [FactsD] at hF); have ⟨hc, hf, hz⟩ := bcell (Gr.tr (Gr.drew _) hG); go_simp; exact hK _ (gives_val)
  apply chain_eq (D := [(101, some 0)]) rfl (by kernel_rfl)
  · intro ρ W ⟨p1, p2, p3⟩ hG hF K hK; (try simp [FactsD] at hF); have ⟨hc, hf, hz⟩ := bcell (Gr.tr (Gr.drew _) hG); go_simp; exact hK _ (gives_val)
  apply chain_leq (D := [(13, none), (102, some 0)]) (by kernel_rfl)
  · intro ρ W hF; (try simp [FactsD] at hF); simp [Lets, *]
  · intro ρ W ⟨p1, p2, p3⟩ hG hF K hK; (try simp [FactsD] at hF); have ⟨hc, hf, hz⟩ := bcell (Gr.tr (Gr.drew _) hG); go_simp; exact hK _ (gives_val)
  apply chain_leq (D := [(103, some 0), (102, some 1)]) (by kernel_rfl)
  · intro ρ W hF; (try simp [FactsD] at hF); simp [Lets, *]
  · intro ρ W ⟨p1, p2, p3⟩ hG hF K hK; (try simp [FactsD] at hF); have ⟨hc, hf, hz⟩ := bcell (Gr.tr (Gr.drew _) hG); go_simp; exact hK _ (gives_val)
  apply chain_eq (D := [(102, some 2), (104, some 0)]) rfl (by kernel_rfl)
  · intro ρ W ⟨p1, p2, p3⟩ hG hF K hK; (try simp [FactsD] at hF); have ⟨hc, hf, hz⟩ := bcell (Gr.tr (Gr.drew _) hG); go_simp; exact hK _ (gives_val)
  apply chain_eq (D := [(105, some 0)]) rfl (by kernel_rfl)
  · intro ρ W ⟨p1, p2, p3⟩ hG hF K hK; (try simp [FactsD] at hF); have ⟨hc, hf, hz⟩ := bcell (Gr.tr (Gr.drew _) hG); go_simp; exact hK _ (gives_val)
  apply chain_leq (D := [(14, none), (106, some 0)]) (by kernel_rfl)
  · intro ρ W hF; (try simp [FactsD] at hF); simp [Lets, *]
  · intro ρ W ⟨p1, p2, p3⟩ hG hF K hK; (try simp [FactsD] at hF); have ⟨hc, hf, hz⟩ := bcell (Gr.tr (Gr.drew _) hG); go_simp; exact hK _ (gives_val)
  apply chain_leq (D := [(5, none), (106, some 1)]) (by kernel_rfl)
  · intro ρ W hF; (try simp [FactsD] at hF); simp [Lets, *]
  · intro ρ W ⟨p1, p2, p3⟩ hG hF K hK; (try simp [FactsD] at hF); have ⟨hc, hf, hz⟩ := bcell (Gr.tr (Gr.drew _) hG); go_simp; exact hK _ (gives_val)
  apply chain_leq (D := [(107, some 1), (108, some 0), (106, some 2)]) (by kernel_rfl)
  · intro ρ W hF; (try simp [FactsD] at hF); simp [Lets, *]
  · intro ρ W ⟨p1, p2, p3⟩ hG hF K hK; (try simp [FactsD] at hF); have ⟨hc, hf, hz⟩ := bcell (Gr.tr (Gr.drew _) hG); go_simp; exact hK _ (gives_val)
  apply chain_eq (D := [(106, some 3), (109, some 0)]) rfl (by kernel_rfl)
  · intro ρ W ⟨p1, p2, p3⟩ hG hF K hK; (try simp [FactsD] at hF); have ⟨hc, hf, hz⟩ := bcell (Gr.tr (Gr.drew _) hG); go_simp; exact hK _ (gives_val)
  apply chain_eq (D := [(110, some 0)]) rfl (by kernel_rfl)
  · intro ρ W ⟨p1, p2, p3⟩ hG hF K hK; (try simp [FactsD] at hF); have ⟨hc, hf, hz⟩ := bcell (Gr.tr (Gr.drew _) hG); go_simp; exact hK _ (gives_val)
  apply chain_leq (D := [(15, none), (111, some 0)]) (by kernel_rfl)
  · intro ρ W hF; (try simp [FactsD] at hF); simp [Lets, *]
  · intro ρ W ⟨p1, p2, p3⟩ hG hF K hK; (try simp [FactsD] at hF); have ⟨hc, hf, hz⟩ := bcell (Gr.tr (Gr.drew _) hG); go_simp; exact hK _ (gives_val)
  apply chain_leq (D := [(112, some 0), (111, some 1)]) (by kernel_rfl)
  · intro ρ W hF; (try simp [FactsD] at hF); simp [Lets, *]
  · intro ρ W ⟨p1, p2, p3⟩ hG hF K hK; (try simp [FactsD] at hF); have ⟨hc, hf, hz⟩ := bcell (Gr.tr (Gr.drew _) hG); go_simp; exact hK _ (gives_val)
  apply chain_eq (D := [(111, some 2), (113, some 0)]) rfl (by kernel_rfl)
  · intro ρ W ⟨p1, p2, p3⟩ hG hF K hK; (try simp [FactsD] at hF); have ⟨hc, hf, hz⟩ := bcell (Gr.tr (Gr.drew _) hG); go_simp; exact hK _ (gives_val)
  refine chain_done ?_
  intro vs W hG hV
  obtain ⟨e62, -⟩ := hV
  simp only [Nat.reduceSub] at e62
  set_option maxRecDepth 100000 in
  simp only [lay, Act.put, List.getElem?_toArray, List.getElem?_cons_succ, List.getElem?_cons_zero, Option.bind_some, List.setIfInBounds_toArray, List.set_cons_succ, List.set_cons_zero]
  generalize vs 0 = v0
  generalize vs 1 = v1
  generalize vs 2 = v2
  generalize vs 3 = v3
  generalize vs 4 = v4
  generalize vs 5 = v5
  generalize vs 6 = v6
  generalize vs 7 = v7
  generalize vs 8 = v8
  generalize vs 9 = v9
  generalize vs 10 = v10
  generalize vs 11 = v11
  generalize vs 12 = v12
  generalize vs 13 = v13
  generalize vs 14 = v14
  generalize vs 15 = v15
  generalize vs 16 = v16
  generalize vs 17 = v17
  generalize vs 18 = v18
  generalize vs 19 = v19
  generalize vs 20 = v20
  generalize vs 21 = v21
  generalize vs 22 = v22
  generalize vs 23 = v23
  generalize vs 24 = v24
  generalize vs 25 = v25
  generalize vs 26 = v26
  generalize vs 27 = v27
  generalize vs 28 = v28
  generalize vs 29 = v29
  generalize vs 30 = v30
  generalize vs 31 = v31
  generalize vs 32 = v32
  generalize vs 33 = v33
  generalize vs 34 = v34
  generalize vs 35 = v35
  generalize vs 36 = v36
  generalize vs 37 = v37
  generalize vs 38 = v38
  generalize vs 39 = v39
  generalize vs 40 = v40
  generalize vs 41 = v41
  generalize vs 42 = v42
  generalize vs 43 = v43
  generalize vs 44 = v44
  generalize vs 45 = v45
  generalize vs 46 = v46
  generalize vs 47 = v47
  generalize vs 48 = v48
  generalize vs 49 = v49
  generalize vs 50 = v50
  generalize vs 51 = v51
  generalize vs 52 = v52
  generalize vs 53 = v53
  generalize vs 54 = v54
  generalize vs 55 = v55
  generalize vs 56 = v56
  generalize vs 57 = v57
  generalize vs 58 = v58
  generalize vs 59 = v59
  generalize vs 60 = v60
  generalize vs 61 = v61
  generalize vs 62 = v62 at *
  subst e62
  obtain ⟨hc, hf, hz⟩ := bcell hG
  go_wp2
  exact bodyPost_ret (v := .bool true) (by simp [results, Try.results12, go_sem]) rfl ⟨rfl, ((hg14.tr (Gr.alloc _ _)).tr hG)⟩
end Go.Proofs.Ytofdoadpaedogaa
