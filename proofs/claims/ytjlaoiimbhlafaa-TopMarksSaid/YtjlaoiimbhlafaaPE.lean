import Derived.Test.YtjlaoiimbhlafaaPD
import Derived.Laws.StructEq
set_option linter.unusedVariables false
set_option linter.unusedSimpArgs false
section
namespace Go.Proofs.Ytjlaoiimbhlafaa
open Go.RowKit Go.Shelf

open MW
attribute [local go_sem] Oper.semAt_some run_store_func
attribute [local go_sem] guard55 guard24 neq55 eql24
attribute [-go_sem] run_eql_struct run_neq_struct
theorem IntsIn.grow {v : Value} {l : List Int} {w w' : World} (h : IntsIn v l w) (hg : Gr w w') : IntsIn v l w' := by
  obtain ⟨p, c, hv, h⟩ := h
  refine ⟨p, c, hv, fun i x hx => ?_⟩
  obtain ⟨b, o, h1, h2, h3⟩ := h i x hx
  exact ⟨b, o, h1, (bcell hg).2.2 _ h2, by rw [(bcell hg).1 _ _ h2]; exact h3⟩
theorem PrsIn.grow {v : Value} {l : List (Nat × Nat)} {w w' : World} (h : PrsIn v l w) (hg : Gr w w') : PrsIn v l w' := by
  obtain ⟨p, c, hv, h⟩ := h
  refine ⟨p, c, hv, fun i x hx => ?_⟩
  obtain ⟨b, o, h1, h2, h3, h4⟩ := h i x hx
  exact ⟨b, o, h1, (bcell hg).2.2 _ h2, by rw [(bcell hg).1 _ _ h2]; exact h3, by rw [(bcell hg).1 _ _ h2]; exact h4⟩
theorem addz (g i : Nat) : ((⟨g, 0, none⟩ : Addr).add i) = ⟨g, i, none⟩ := by unfold Addr.add; by_cases h : i = 0 <;> simp [h]
theorem IntsIn.of_own {v : Value} {l : List Int} {w : World} {base : Nat} (h : w.ownsRow base 3 1 v l.length (ivs l)) : IntsIn v l w := by
  have h' := h
  obtain ⟨-, h1⟩ := h
  rcases h1 with ⟨rfl, hn⟩ | ⟨g, cap, cur, rfl, hb, hgg, -⟩
  · exact ⟨none, 0, by rw [hn], fun i x hx => by rw [List.length_eq_zero_iff.1 hn] at hx; cases hx⟩
  · refine ⟨_, _, rfl, fun i x hx => ⟨g, 0, rfl, (Array.getElem?_eq_some_iff.1 hgg).1, ?_⟩⟩
    have := h'.cells (g := g) rfl i (.int .i64 x) (by unfold ivs; rw [List.getElem?_map, hx]; rfl)
    rw [addz] at this; rw [Nat.zero_add]; exact this
theorem pv_at : ∀ (l : List (Nat × Nat)) (i : Nat) (x : Nat × Nat), l[i]? = some x → (l.flatMap pv)[i * 2]? = some (.int .i64 x.1) ∧ (l.flatMap pv)[i * 2 + 1]? = some (.int .i64 x.2)
  | [], i, x, h => by cases h
  | a :: l, 0, x, h => by cases h; exact ⟨rfl, rfl⟩
  | a :: l, i + 1, x, h => by
    have := pv_at l i x h
    rw [List.flatMap_cons, show (i + 1) * 2 = i * 2 + 2 by omega]
    exact this
theorem PrsIn.of_own {v : Value} {l : List (Nat × Nat)} {w : World} {base : Nat} (h : w.ownsRow base 55 2 v l.length (l.flatMap pv)) : PrsIn v l w := by
  have h' := h
  obtain ⟨-, h1⟩ := h
  rcases h1 with ⟨rfl, hn⟩ | ⟨g, cap, cur, rfl, hb, hgg, -⟩
  · exact ⟨none, 0, by rw [hn], fun i x hx => by rw [List.length_eq_zero_iff.1 hn] at hx; cases hx⟩
  · refine ⟨_, _, rfl, fun i x hx => ⟨g, 0, rfl, (Array.getElem?_eq_some_iff.1 hgg).1, ?_, ?_⟩⟩
    · have := h'.cells (g := g) rfl _ _ (pv_at l i x hx).1
      rw [addz] at this; rw [Nat.zero_add]; exact this
    · have := h'.cells (g := g) rfl _ _ (pv_at l i x hx).2
      rw [addz] at this; rw [Nat.zero_add]; exact this
theorem IntsIn.lit (l : List Int) (w : World) (c : Nat) {T : TypeId} : IntsIn (.slice (some ⟨w.heap.size, 0, none⟩) l.length c) l (w.alloc (Obj.cells (ivs l).toArray T)) :=
  ⟨_, _, rfl, fun i x hx => ⟨_, 0, rfl, by simp, by rw [Nat.zero_add]; exact (Box.fresh w (ivs l) T).cell (by unfold ivs; rw [List.getElem?_map, hx]; rfl)⟩⟩
theorem PrsIn.lit (l : List (Nat × Nat)) (w : World) (c : Nat) {T : TypeId} : PrsIn (.slice (some ⟨w.heap.size, 0, none⟩) l.length c) l (w.alloc (Obj.cells (l.flatMap pv).toArray T)) :=
  ⟨_, _, rfl, fun i x hx => ⟨_, 0, rfl, by simp, by rw [Nat.zero_add]; exact (Box.fresh w (l.flatMap pv) T).cell (pv_at l i x hx).1, by rw [Nat.zero_add]; exact (Box.fresh w (l.flatMap pv) T).cell (pv_at l i x hx).2⟩⟩
theorem ints_same (l : List Int) (v1 v2 : Value) (w : World) (h1 : IntsIn v1 l w) (h2 : IntsIn v2 l w) (hl : l.length ≤ 1000) : Calls Try.prog 29 #[v1, v2] w fun e w' => e = .returned (.bool true) ∧ Below w.heap.size w w' := by
  have := ints29_any l l v1 v2 w h1 h2 hl hl
  rwa [show decide (l = l) = true by simp] at this
theorem prs_same (l : List (Nat × Nat)) (v1 v2 : Value) (w : World) (h1 : PrsIn v1 l w) (h2 : PrsIn v2 l w) (hl : l.length ≤ 1000) : Calls Try.prog 22 #[v1, v2] w fun e w' => e = .returned (.bool true) ∧ Below w.heap.size w w' := by
  have := pairs22_any l l v1 v2 w h1 h2 hl hl
  rwa [show decide (l = l) = true by simp] at this
theorem s16_20 (bL bR : Nat) (w : World) (hl : MksAt smL (some ⟨bL, 0, none⟩) w) (hr : MksAt smR (some ⟨bR, 0, none⟩) w) : Calls Try.prog 16 #[(smp bL bR).val, .int .i64 2, .int .i64 0] w fun e w' => e = .returned (.tuple #[.bool false, .int .i64 0]) ∧ Below w.heap.size w w' := by
  have := Fits_any (smp bL bR) 2 0 w hl hr
  rw [smp_fits20] at this
  exact this
theorem s16_00 (bL bR : Nat) (w : World) (hl : MksAt smL (some ⟨bL, 0, none⟩) w) (hr : MksAt smR (some ⟨bR, 0, none⟩) w) : Calls Try.prog 16 #[(smp bL bR).val, .int .i64 0, .int .i64 0] w fun e w' => e = .returned (.tuple #[.bool true, .int .i64 0]) ∧ Below w.heap.size w w' := by
  have := Fits_any (smp bL bR) 0 0 w hl hr
  rw [smp_fits00] at this
  exact this
theorem s18 (bL bR : Nat) (w : World) (hl : MksAt smL (some ⟨bL, 0, none⟩) w) (hr : MksAt smR (some ⟨bR, 0, none⟩) w) : Calls Try.prog 18 #[(smp bL bR).val] w fun e w' => e = .returned (.tuple #[.int .i64 2, .int .i64 0]) ∧ Below w.heap.size w w' := by
  have := Count_any (smp bL bR) w hl hr
  rw [smp_counted] at this
  exact this
theorem s27 (bL bR : Nat) (w : World) (hl : MksAt smL (some ⟨bL, 0, none⟩) w) (hr : MksAt smR (some ⟨bR, 0, none⟩) w) : Calls Try.prog 27 #[(smp bL bR).val] w fun e w' => e = .returned (.tuple #[.int .i64 0, .int .i64 12, .int .i64 0]) ∧ Below w.heap.size w w' := by
  have := Hides_any (smp bL bR) w hl hr
  rw [smp_hides] at this
  exact this
theorem s30_2 (bL bR : Nat) (w : World) (hl : MksAt smL (some ⟨bL, 0, none⟩) w) (hr : MksAt smR (some ⟨bR, 0, none⟩) w) : Calls Try.prog 30 #[(smp bL bR).val, .int .i64 2] w fun e w' => e = .returned (.tuple #[.agg #[.int .i64 6, .int .i64 20], .int .i64 0]) ∧ Below w.heap.size w w' := by
  have := Shift_any (smp bL bR) 2 w hl hr
  rw [smp_shift2] at this
  exact this
theorem s30_0 (bL bR : Nat) (w : World) (hl : MksAt smL (some ⟨bL, 0, none⟩) w) (hr : MksAt smR (some ⟨bR, 0, none⟩) w) : Calls Try.prog 30 #[(smp bL bR).val, .int .i64 0] w fun e w' => e = .returned (.tuple #[.agg #[.int .i64 8, .int .i64 12], .int .i64 0]) ∧ Below w.heap.size w w' := by
  have := Shift_any (smp bL bR) 0 w hl hr
  rw [smp_shift0] at this
  exact this
theorem s32 (bL bR : Nat) (w : World) (hl : MksAt smL (some ⟨bL, 0, none⟩) w) (hr : MksAt smR (some ⟨bR, 0, none⟩) w) : Calls Try.prog 32 #[(smp bL bR).val] w fun e w' => e = .returned (.tuple #[.int .i64 2, .int .i64 1, .int .i64 0]) ∧ Below w.heap.size w w' := by
  have := Ask_any (smp bL bR) w hl hr
  rw [smp_ask] at this
  exact this
theorem s20 (bL bR : Nat) (w : World) (hl : MksAt smL (some ⟨bL, 0, none⟩) w) (hr : MksAt smR (some ⟨bR, 0, none⟩) w) : Calls Try.prog 20 #[(smp bL bR).val] w fun e w' => (∃ v, e = .returned (.tuple #[v, .int .i64 1, .int .i64 0]) ∧ PrsIn v [(0, 0), (1, 1), (2, 2)] w') ∧ Below w.heap.size w w' := by
  have := Fewest_any (smp bL bR) w hl hr
  rw [smp_fewest] at this
  exact this.mono fun e w' ⟨⟨v, h1, h2⟩, h3⟩ => ⟨⟨v, h1, PrsIn.of_own h2⟩, h3⟩
theorem s23 (bL bR : Nat) (w : World) (hl : MksAt smL (some ⟨bL, 0, none⟩) w) (hr : MksAt smR (some ⟨bR, 0, none⟩) w) : Calls Try.prog 23 #[(smp bL bR).val] w fun e w' => (∃ v, e = .returned (.tuple #[v, .int .i64 0]) ∧ IntsIn v [1, 2, 12] w') ∧ Below w.heap.size w w' := by
  have := Can_any (smp bL bR) w hl hr
  rw [smp_can] at this
  exact this.mono fun e w' ⟨⟨v, h1, h2⟩, h3⟩ => ⟨⟨v, h1, IntsIn.of_own h2⟩, h3⟩
theorem s25 (bL bR : Nat) (w : World) (hl : MksAt smL (some ⟨bL, 0, none⟩) w) (hr : MksAt smR (some ⟨bR, 0, none⟩) w) : Calls Try.prog 25 #[(smp bL bR).val] w fun e w' => (∃ v, e = .returned (.tuple #[v, .int .i64 0]) ∧ IntsIn v [0, 1, -1] w') ∧ Below w.heap.size w w' := by
  have := Sure_any (smp bL bR) w hl hr
  rw [smp_surely] at this
  exact this.mono fun e w' ⟨⟨v, h1, h2⟩, h3⟩ => ⟨⟨v, h1, IntsIn.of_own h2⟩, h3⟩
set_option maxRecDepth 100000 in
set_option maxHeartbeats 4000000 in
theorem alive_any (w : World) : Calls Try.prog 15 #[] w fun e w' => e = .returned (.bool true) ∧ Below w.heap.size w w' := by
  have HSm := Lib.hid sample_any
  have HG := Lib.hid (Gr.same w)
  go_enter Try.func15, Try.ntmps15
  go_wp2_with (first | (go_at_call 34; refine (HSm.out _).mono ?_; rintro e wa ⟨⟨bL, bR, rfl, hml, hmr⟩, hb⟩; have HL := Lib.hid hml; have HR := Lib.hid hmr; have HG := Lib.hid (show Gr w wa from by first | exact Gr.tr HG.out hb | exact Gr.tr (HG.out.tr (Gr.alloc _ _)) hb); (try have HPV := Lib.hid (HPV.out.grow (by first | exact hb | exact Gr.tr (Gr.alloc _ _) hb))); (try have HCV := Lib.hid (HCV.out.grow (by first | exact hb | exact Gr.tr (Gr.alloc _ _) hb))); (try have HSV := Lib.hid (HSV.out.grow (by first | exact hb | exact Gr.tr (Gr.alloc _ _) hb))); (try have HB24 := Lib.hid (HB24.out.grow (by first | exact hb | exact Gr.tr (Gr.alloc _ _) hb))); (try have HB24 := Lib.hid ((Box.fresh wg [.int .i64 6, .int .i64 20] 24).grow hb)); clear hb hml hmr) | (go_at_call 16; refine (s16_20 bL bR _ HL.out HR.out).mono ?_; rintro e wb ⟨rfl, hb⟩; have HG := Lib.hid (show Gr w wb from by first | exact Gr.tr HG.out hb | exact Gr.tr (HG.out.tr (Gr.alloc _ _)) hb); (try have HPV := Lib.hid (HPV.out.grow (by first | exact hb | exact Gr.tr (Gr.alloc _ _) hb))); (try have HCV := Lib.hid (HCV.out.grow (by first | exact hb | exact Gr.tr (Gr.alloc _ _) hb))); (try have HSV := Lib.hid (HSV.out.grow (by first | exact hb | exact Gr.tr (Gr.alloc _ _) hb))); (try have HB24 := Lib.hid (HB24.out.grow (by first | exact hb | exact Gr.tr (Gr.alloc _ _) hb))); clear hb) | (go_at_call 18; refine (s18 bL bR _ HL.out HR.out).mono ?_; rintro e wc ⟨rfl, hb⟩; have HG := Lib.hid (show Gr w wc from by first | exact Gr.tr HG.out hb | exact Gr.tr (HG.out.tr (Gr.alloc _ _)) hb); (try have HPV := Lib.hid (HPV.out.grow (by first | exact hb | exact Gr.tr (Gr.alloc _ _) hb))); (try have HCV := Lib.hid (HCV.out.grow (by first | exact hb | exact Gr.tr (Gr.alloc _ _) hb))); (try have HSV := Lib.hid (HSV.out.grow (by first | exact hb | exact Gr.tr (Gr.alloc _ _) hb))); (try have HB24 := Lib.hid (HB24.out.grow (by first | exact hb | exact Gr.tr (Gr.alloc _ _) hb))); clear hb) | (go_at_call 20; refine (s20 bL bR _ HL.out HR.out).mono ?_; rintro e wd ⟨⟨pvv, rfl, hpv⟩, hb⟩; have HG := Lib.hid (show Gr w wd from by first | exact Gr.tr HG.out hb | exact Gr.tr (HG.out.tr (Gr.alloc _ _)) hb); (try have HPV := Lib.hid (HPV.out.grow (by first | exact hb | exact Gr.tr (Gr.alloc _ _) hb))); (try have HCV := Lib.hid (HCV.out.grow (by first | exact hb | exact Gr.tr (Gr.alloc _ _) hb))); (try have HSV := Lib.hid (HSV.out.grow (by first | exact hb | exact Gr.tr (Gr.alloc _ _) hb))); (try have HB24 := Lib.hid (HB24.out.grow (by first | exact hb | exact Gr.tr (Gr.alloc _ _) hb))); have HPV := Lib.hid hpv; clear hpv; clear hb) | (go_at_call 23; refine (s23 bL bR _ HL.out HR.out).mono ?_; rintro e we ⟨⟨cvv, rfl, hcv⟩, hb⟩; have HG := Lib.hid (show Gr w we from by first | exact Gr.tr HG.out hb | exact Gr.tr (HG.out.tr (Gr.alloc _ _)) hb); (try have HPV := Lib.hid (HPV.out.grow (by first | exact hb | exact Gr.tr (Gr.alloc _ _) hb))); (try have HCV := Lib.hid (HCV.out.grow (by first | exact hb | exact Gr.tr (Gr.alloc _ _) hb))); (try have HSV := Lib.hid (HSV.out.grow (by first | exact hb | exact Gr.tr (Gr.alloc _ _) hb))); (try have HB24 := Lib.hid (HB24.out.grow (by first | exact hb | exact Gr.tr (Gr.alloc _ _) hb))); have HCV := Lib.hid hcv; clear hcv; clear hb) | (go_at_call 25; refine (s25 bL bR _ HL.out HR.out).mono ?_; rintro e wf ⟨⟨svv, rfl, hsv⟩, hb⟩; have HG := Lib.hid (show Gr w wf from by first | exact Gr.tr HG.out hb | exact Gr.tr (HG.out.tr (Gr.alloc _ _)) hb); (try have HPV := Lib.hid (HPV.out.grow (by first | exact hb | exact Gr.tr (Gr.alloc _ _) hb))); (try have HCV := Lib.hid (HCV.out.grow (by first | exact hb | exact Gr.tr (Gr.alloc _ _) hb))); (try have HSV := Lib.hid (HSV.out.grow (by first | exact hb | exact Gr.tr (Gr.alloc _ _) hb))); (try have HB24 := Lib.hid (HB24.out.grow (by first | exact hb | exact Gr.tr (Gr.alloc _ _) hb))); have HSV := Lib.hid hsv; clear hsv; clear hb) | (go_at_call 30; refine (s30_2 bL bR _ HL.out HR.out).mono ?_; rintro e wg ⟨rfl, hb⟩; have HG := Lib.hid (show Gr w wg from by first | exact Gr.tr HG.out hb | exact Gr.tr (HG.out.tr (Gr.alloc _ _)) hb); (try have HPV := Lib.hid (HPV.out.grow (by first | exact hb | exact Gr.tr (Gr.alloc _ _) hb))); (try have HCV := Lib.hid (HCV.out.grow (by first | exact hb | exact Gr.tr (Gr.alloc _ _) hb))); (try have HSV := Lib.hid (HSV.out.grow (by first | exact hb | exact Gr.tr (Gr.alloc _ _) hb))); (try have HB24 := Lib.hid (HB24.out.grow (by first | exact hb | exact Gr.tr (Gr.alloc _ _) hb))); clear hb) | (go_at_call 32; refine (s32 bL bR _ HL.out HR.out).mono ?_; rintro e wh ⟨rfl, hb⟩; have HG := Lib.hid (show Gr w wh from by first | exact Gr.tr HG.out hb | exact Gr.tr (HG.out.tr (Gr.alloc _ _)) hb); (try have HPV := Lib.hid (HPV.out.grow (by first | exact hb | exact Gr.tr (Gr.alloc _ _) hb))); (try have HCV := Lib.hid (HCV.out.grow (by first | exact hb | exact Gr.tr (Gr.alloc _ _) hb))); (try have HSV := Lib.hid (HSV.out.grow (by first | exact hb | exact Gr.tr (Gr.alloc _ _) hb))); (try have HB24 := Lib.hid (HB24.out.grow (by first | exact hb | exact Gr.tr (Gr.alloc _ _) hb))); clear hb) | (go_at_call 22; refine (prs_same [(0, 0), (1, 1), (2, 2)] _ _ _ (HPV.out.grow (Gr.alloc _ _)) (PrsIn.lit [(0, 0), (1, 1), (2, 2)] wh 3) (by decide)).mono ?_; rintro e wi ⟨rfl, hb⟩; have HG := Lib.hid (show Gr w wi from by first | exact Gr.tr HG.out hb | exact Gr.tr (HG.out.tr (Gr.alloc _ _)) hb); (try have HPV := Lib.hid (HPV.out.grow (by first | exact hb | exact Gr.tr (Gr.alloc _ _) hb))); (try have HCV := Lib.hid (HCV.out.grow (by first | exact hb | exact Gr.tr (Gr.alloc _ _) hb))); (try have HSV := Lib.hid (HSV.out.grow (by first | exact hb | exact Gr.tr (Gr.alloc _ _) hb))); (try have HB24 := Lib.hid (HB24.out.grow (by first | exact hb | exact Gr.tr (Gr.alloc _ _) hb))); clear hb))
  refine region2 38 ?_ ?_ ?_
  · kernel_rfl
  · kernel_rfl
  simp only [List.take_succ_cons, List.take_zero, List.drop_succ_cons, List.drop_zero]
  apply chain_eq (D := [(8, none)]) rfl (by kernel_rfl)
  · intro ρ W ⟨p1, p2, p3⟩ hG hF K hK; (try simp [FactsD] at hF); have ⟨hc, hf, hz⟩ := bcell (Gr.tr (Gr.drew _) hG); go_simp; exact hK _ (gives_val)
  refine chain_any (V := (fun v W' => IntsIn v [1, 2, 12] W')) (D := []) rfl (by kernel_rfl) (fun v W W' h hg => h.grow hg) ?_ ?_
  · intro ρ W ⟨p1, p2, p3⟩ hG hF K hK; (try simp [FactsD] at hF); have ⟨hc, hf, hz⟩ := bcell (Gr.tr (Gr.drew _) hG); go_simp; exact hK _ (⟨IntsIn.lit [1, 2, 12] W 3, Gr.alloc _ _⟩)
  apply chain_eq (D := [(84, some 1), (85, some 0)]) rfl (by kernel_rfl)
  · intro ρ W ⟨p1, p2, p3⟩ hG hF K hK; (try simp [FactsD] at hF); have ⟨hc, hf, hz⟩ := bcell (Gr.tr (Gr.drew _) hG); go_simp; exact hK _ (gives_call (ints_same [1, 2, 12] _ _ _ (HCV.out.grow (Gr.tr (Gr.drew _) hG)) hF.2 (by decide)))
  apply chain_eq (D := [(86, some 0)]) rfl (by kernel_rfl)
  · intro ρ W ⟨p1, p2, p3⟩ hG hF K hK; (try simp [FactsD] at hF); have ⟨hc, hf, hz⟩ := bcell (Gr.tr (Gr.drew _) hG); go_simp; exact hK _ (gives_val)
  apply chain_leq (D := [(9, none), (87, some 0)]) (by kernel_rfl)
  · intro ρ W hF; (try simp [FactsD] at hF); simp [Lets, *]
  · intro ρ W ⟨p1, p2, p3⟩ hG hF K hK; (try simp [FactsD] at hF); have ⟨hc, hf, hz⟩ := bcell (Gr.tr (Gr.drew _) hG); go_simp; exact hK _ (gives_val)
  apply chain_leq (D := [(88, some 0), (87, some 1)]) (by kernel_rfl)
  · intro ρ W hF; (try simp [FactsD] at hF); simp [Lets, *]
  · intro ρ W ⟨p1, p2, p3⟩ hG hF K hK; (try simp [FactsD] at hF); have ⟨hc, hf, hz⟩ := bcell (Gr.tr (Gr.drew _) hG); go_simp; exact hK _ (gives_val)
  apply chain_eq (D := [(87, some 2), (89, some 0)]) rfl (by kernel_rfl)
  · intro ρ W ⟨p1, p2, p3⟩ hG hF K hK; (try simp [FactsD] at hF); have ⟨hc, hf, hz⟩ := bcell (Gr.tr (Gr.drew _) hG); go_simp; exact hK _ (gives_val)
  apply chain_eq (D := [(90, some 0)]) rfl (by kernel_rfl)
  · intro ρ W ⟨p1, p2, p3⟩ hG hF K hK; (try simp [FactsD] at hF); have ⟨hc, hf, hz⟩ := bcell (Gr.tr (Gr.drew _) hG); go_simp; exact hK _ (gives_val)
  apply chain_leq (D := [(10, none), (91, some 0)]) (by kernel_rfl)
  · intro ρ W hF; (try simp [FactsD] at hF); simp [Lets, *]
  · intro ρ W ⟨p1, p2, p3⟩ hG hF K hK; (try simp [FactsD] at hF); have ⟨hc, hf, hz⟩ := bcell (Gr.tr (Gr.drew _) hG); go_simp; exact hK _ (gives_val)
  refine chain_let (V := (fun v W' => IntsIn v [0, 1, -1] W')) (D := [(91, some 1)]) (by kernel_rfl) ?_ (fun v W W' h hg => h.grow hg) ?_ ?_
  · intro ρ W hF; (try simp [FactsD] at hF); simp [Lets, *]
  · intro ρ W ⟨p1, p2, p3⟩ hG hF K hK; (try simp [FactsD] at hF); have ⟨hc, hf, hz⟩ := bcell (Gr.tr (Gr.drew _) hG); go_simp; exact hK _ (⟨IntsIn.lit [0, 1, -1] W 3, Gr.alloc _ _⟩)
  apply chain_leq (D := [(92, some 1), (93, some 0), (91, some 2)]) (by kernel_rfl)
  · intro ρ W hF; (try simp [FactsD] at hF); simp [Lets, *]
  · intro ρ W ⟨p1, p2, p3⟩ hG hF K hK; (try simp [FactsD] at hF); have ⟨hc, hf, hz⟩ := bcell (Gr.tr (Gr.drew _) hG); have hI := hF.2.1; go_simp; exact hK _ (gives_call (ints_same [0, 1, -1] _ _ _ (HSV.out.grow (Gr.tr (Gr.drew _) hG)) hI (by decide)))
  apply chain_eq (D := [(91, some 3), (94, some 0)]) rfl (by kernel_rfl)
  · intro ρ W ⟨p1, p2, p3⟩ hG hF K hK; (try simp [FactsD] at hF); have ⟨hc, hf, hz⟩ := bcell (Gr.tr (Gr.drew _) hG); go_simp; exact hK _ (gives_val)
  apply chain_eq (D := [(95, some 0)]) rfl (by kernel_rfl)
  · intro ρ W ⟨p1, p2, p3⟩ hG hF K hK; (try simp [FactsD] at hF); have ⟨hc, hf, hz⟩ := bcell (Gr.tr (Gr.drew _) hG); go_simp; exact hK _ (gives_val)
  apply chain_leq (D := [(11, none), (96, some 0)]) (by kernel_rfl)
  · intro ρ W hF; (try simp [FactsD] at hF); simp [Lets, *]
  · intro ρ W ⟨p1, p2, p3⟩ hG hF K hK; (try simp [FactsD] at hF); have ⟨hc, hf, hz⟩ := bcell (Gr.tr (Gr.drew _) hG); go_simp; exact hK _ (gives_val)
  apply chain_leq (D := [(97, some 0), (96, some 1)]) (by kernel_rfl)
  · intro ρ W hF; (try simp [FactsD] at hF); simp [Lets, *]
  · intro ρ W ⟨p1, p2, p3⟩ hG hF K hK; (try simp [FactsD] at hF); have ⟨hc, hf, hz⟩ := bcell (Gr.tr (Gr.drew _) hG); go_simp; exact hK _ (gives_val)
  apply chain_eq (D := [(96, some 2), (98, some 0)]) rfl (by kernel_rfl)
  · intro ρ W ⟨p1, p2, p3⟩ hG hF K hK; (try simp [FactsD] at hF); have ⟨hc, hf, hz⟩ := bcell (Gr.tr (Gr.drew _) hG); go_simp; exact hK _ (gives_val)
  apply chain_eq (D := [(99, some 0)]) rfl (by kernel_rfl)
  · intro ρ W ⟨p1, p2, p3⟩ hG hF K hK; (try simp [FactsD] at hF); have ⟨hc, hf, hz⟩ := bcell (Gr.tr (Gr.drew _) hG); go_simp; exact hK _ (gives_val)
  apply chain_leq (D := [(12, none), (100, some 0)]) (by kernel_rfl)
  · intro ρ W hF; (try simp [FactsD] at hF); simp [Lets, *]
  · intro ρ W ⟨p1, p2, p3⟩ hG hF K hK; (try simp [FactsD] at hF); have ⟨hc, hf, hz⟩ := bcell (Gr.tr (Gr.drew _) hG); have q0 := (HB24.out.grow (Gr.tr (Gr.drew _) hG)).cell (i := 0) rfl; have q1 := (HB24.out.grow (Gr.tr (Gr.drew _) hG)).cell (i := 1) rfl; go_simp; exact hK _ (gives_val)
  apply chain_leq (D := [(100, some 1)]) (by kernel_rfl)
  · intro ρ W hF; (try simp [FactsD] at hF); simp [Lets, *]
  · intro ρ W ⟨p1, p2, p3⟩ hG hF K hK; (try simp [FactsD] at hF); have ⟨hc, hf, hz⟩ := bcell (Gr.tr (Gr.drew _) hG); go_simp; exact hK _ (gives_call (span35_any 6 20 _))
  apply chain_leq (D := [(101, some 1), (102, some 0), (100, some 2)]) (by kernel_rfl)
  · intro ρ W hF; (try simp [FactsD] at hF); simp [Lets, *]
  · intro ρ W ⟨p1, p2, p3⟩ hG hF K hK; (try simp [FactsD] at hF); have ⟨hc, hf, hz⟩ := bcell (Gr.tr (Gr.drew _) hG); go_simp; exact hK _ (gives_val)
  apply chain_eq (D := [(100, some 3), (103, some 0)]) rfl (by kernel_rfl)
  · intro ρ W ⟨p1, p2, p3⟩ hG hF K hK; (try simp [FactsD] at hF); have ⟨hc, hf, hz⟩ := bcell (Gr.tr (Gr.drew _) hG); go_simp; exact hK _ (gives_val)
  apply chain_eq (D := [(104, some 0)]) rfl (by kernel_rfl)
  · intro ρ W ⟨p1, p2, p3⟩ hG hF K hK; (try simp [FactsD] at hF); have ⟨hc, hf, hz⟩ := bcell (Gr.tr (Gr.drew _) hG); go_simp; exact hK _ (gives_val)
  apply chain_leq (D := [(13, none), (105, some 0)]) (by kernel_rfl)
  · intro ρ W hF; (try simp [FactsD] at hF); simp [Lets, *]
  · intro ρ W ⟨p1, p2, p3⟩ hG hF K hK; (try simp [FactsD] at hF); have ⟨hc, hf, hz⟩ := bcell (Gr.tr (Gr.drew _) hG); go_simp; exact hK _ (gives_val)
  apply chain_leq (D := [(106, some 0), (105, some 1)]) (by kernel_rfl)
  · intro ρ W hF; (try simp [FactsD] at hF); simp [Lets, *]
  · intro ρ W ⟨p1, p2, p3⟩ hG hF K hK; (try simp [FactsD] at hF); have ⟨hc, hf, hz⟩ := bcell (Gr.tr (Gr.drew _) hG); go_simp; exact hK _ (gives_val)
  apply chain_eq (D := [(105, some 2), (107, some 0)]) rfl (by kernel_rfl)
  · intro ρ W ⟨p1, p2, p3⟩ hG hF K hK; (try simp [FactsD] at hF); have ⟨hc, hf, hz⟩ := bcell (Gr.tr (Gr.drew _) hG); go_simp; exact hK _ (gives_val)
  apply chain_eq (D := [(108, some 0)]) rfl (by kernel_rfl)
  · intro ρ W ⟨p1, p2, p3⟩ hG hF K hK; (try simp [FactsD] at hF); have ⟨hc, hf, hz⟩ := bcell (Gr.tr (Gr.drew _) hG); go_simp; exact hK _ (gives_val)
  apply chain_leq (D := [(14, none), (109, some 0)]) (by kernel_rfl)
  · intro ρ W hF; (try simp [FactsD] at hF); simp [Lets, *]
  · intro ρ W ⟨p1, p2, p3⟩ hG hF K hK; (try simp [FactsD] at hF); have ⟨hc, hf, hz⟩ := bcell (Gr.tr (Gr.drew _) hG); go_simp; exact hK _ (gives_val)
  apply chain_leq (D := [(110, some 0), (109, some 1)]) (by kernel_rfl)
  · intro ρ W hF; (try simp [FactsD] at hF); simp [Lets, *]
  · intro ρ W ⟨p1, p2, p3⟩ hG hF K hK; (try simp [FactsD] at hF); have ⟨hc, hf, hz⟩ := bcell (Gr.tr (Gr.drew _) hG); go_simp; exact hK _ (gives_val)
  apply chain_eq (D := [(109, some 2), (111, some 0)]) rfl (by kernel_rfl)
  · intro ρ W ⟨p1, p2, p3⟩ hG hF K hK; (try simp [FactsD] at hF); have ⟨hc, hf, hz⟩ := bcell (Gr.tr (Gr.drew _) hG); go_simp; exact hK _ (gives_val)
  apply chain_eq (D := [(112, some 0)]) rfl (by kernel_rfl)
  · intro ρ W ⟨p1, p2, p3⟩ hG hF K hK; (try simp [FactsD] at hF); have ⟨hc, hf, hz⟩ := bcell (Gr.tr (Gr.drew _) hG); go_simp; exact hK _ (gives_val)
  apply chain_leq (D := [(15, none), (113, some 0)]) (by kernel_rfl)
  · intro ρ W hF; (try simp [FactsD] at hF); simp [Lets, *]
  · intro ρ W ⟨p1, p2, p3⟩ hG hF K hK; (try simp [FactsD] at hF); have ⟨hc, hf, hz⟩ := bcell (Gr.tr (Gr.drew _) hG); go_simp; exact hK _ (gives_val)
  apply chain_leq (D := [(114, some 0), (113, some 1)]) (by kernel_rfl)
  · intro ρ W hF; (try simp [FactsD] at hF); simp [Lets, *]
  · intro ρ W ⟨p1, p2, p3⟩ hG hF K hK; (try simp [FactsD] at hF); have ⟨hc, hf, hz⟩ := bcell (Gr.tr (Gr.drew _) hG); go_simp; exact hK _ (gives_val)
  apply chain_eq (D := [(113, some 2), (115, some 0)]) rfl (by kernel_rfl)
  · intro ρ W ⟨p1, p2, p3⟩ hG hF K hK; (try simp [FactsD] at hF); have ⟨hc, hf, hz⟩ := bcell (Gr.tr (Gr.drew _) hG); go_simp; exact hK _ (gives_val)
  apply chain_eq (D := [(116, some 0)]) rfl (by kernel_rfl)
  · intro ρ W ⟨p1, p2, p3⟩ hG hF K hK; (try simp [FactsD] at hF); have ⟨hc, hf, hz⟩ := bcell (Gr.tr (Gr.drew _) hG); go_simp; exact hK _ (gives_val)
  apply chain_leq (D := [(16, none), (117, some 0)]) (by kernel_rfl)
  · intro ρ W hF; (try simp [FactsD] at hF); simp [Lets, *]
  · intro ρ W ⟨p1, p2, p3⟩ hG hF K hK; (try simp [FactsD] at hF); have ⟨hc, hf, hz⟩ := bcell (Gr.tr (Gr.drew _) hG); go_simp; exact hK _ (gives_val)
  apply chain_leq (D := [(118, some 0), (117, some 1)]) (by kernel_rfl)
  · intro ρ W hF; (try simp [FactsD] at hF); simp [Lets, *]
  · intro ρ W ⟨p1, p2, p3⟩ hG hF K hK; (try simp [FactsD] at hF); have ⟨hc, hf, hz⟩ := bcell (Gr.tr (Gr.drew _) hG); go_simp; exact hK _ (gives_val)
  apply chain_eq (D := [(117, some 2), (119, some 0)]) rfl (by kernel_rfl)
  · intro ρ W ⟨p1, p2, p3⟩ hG hF K hK; (try simp [FactsD] at hF); have ⟨hc, hf, hz⟩ := bcell (Gr.tr (Gr.drew _) hG); go_simp; exact hK _ (gives_val)
  apply chain_eq (D := [(120, some 0)]) rfl (by kernel_rfl)
  · intro ρ W ⟨p1, p2, p3⟩ hG hF K hK; (try simp [FactsD] at hF); have ⟨hc, hf, hz⟩ := bcell (Gr.tr (Gr.drew _) hG); go_simp; exact hK _ (gives_val)
  refine chain_done ?_
  intro vs W hG hV
  obtain ⟨e37, -⟩ := hV
  simp only [Nat.reduceSub] at e37
  set_option maxRecDepth 100000 in
  simp only [lay, Act.put, List.getElem?_toArray, List.getElem?_cons_succ, List.getElem?_cons_zero, Option.bind_some, List.setIfInBounds_toArray, List.set_cons_succ, List.set_cons_zero]
  generalize vs 0 = v0
  generalize vs 1 = v1
  generalize vs 2 = v2
  generalize vs 3 = v3
  generalize vs 4 = v4
  generalize vs 5 = v5
  generalize vs 6 = v6
  generalize vs 7 = v7
  generalize vs 8 = v8
  generalize vs 9 = v9
  generalize vs 10 = v10
  generalize vs 11 = v11
  generalize vs 12 = v12
  generalize vs 13 = v13
  generalize vs 14 = v14
  generalize vs 15 = v15
  generalize vs 16 = v16
  generalize vs 17 = v17
  generalize vs 18 = v18
  generalize vs 19 = v19
  generalize vs 20 = v20
  generalize vs 21 = v21
  generalize vs 22 = v22
  generalize vs 23 = v23
  generalize vs 24 = v24
  generalize vs 25 = v25
  generalize vs 26 = v26
  generalize vs 27 = v27
  generalize vs 28 = v28
  generalize vs 29 = v29
  generalize vs 30 = v30
  generalize vs 31 = v31
  generalize vs 32 = v32
  generalize vs 33 = v33
  generalize vs 34 = v34
  generalize vs 35 = v35
  generalize vs 36 = v36
  generalize vs 37 = v37 at *
  subst e37
  obtain ⟨hc, hf, hz⟩ := bcell hG
  go_wp2_with fail
  go_ret
  exact ⟨rfl, by first | exact Gr.tr HG.out hG | exact Gr.tr (HG.out.tr (Gr.drew _)) hG⟩

end Go.Proofs.Ytjlaoiimbhlafaa
end
section
namespace Go.Proofs.Ytjlaoiimbhlafaa
open Go.RowKit Go.Shelf

open MW
attribute [local go_sem] Oper.semAt_some run_store_func
attribute [local go_sem] guard55 guard24 neq55 eql24
attribute [-go_sem] run_eql_struct run_neq_struct
set_option maxRecDepth 100000 in
set_option maxHeartbeats 4000000 in
theorem names_any (w : World) : Calls Try.prog 6 #[] w fun e w' => e = .returned (.bool true) ∧ Below w.heap.size w w' := by
  have HSm := Lib.hid sample_any
  have HG := Lib.hid (Gr.same w)
  go_enter Try.func6, Try.ntmps6
  go_wp2_with (first | (go_at_call 34; refine (HSm.out _).mono ?_; rintro e wa ⟨⟨bL, bR, rfl, hml, hmr⟩, hb⟩; have HL := Lib.hid hml; have HR := Lib.hid hmr; have HG := Lib.hid (show Gr w wa from by first | exact Gr.tr HG.out hb | exact Gr.tr (HG.out.tr (Gr.alloc _ _)) hb); (try have HPV := Lib.hid (HPV.out.grow (by first | exact hb | exact Gr.tr (Gr.alloc _ _) hb))); (try have HCV := Lib.hid (HCV.out.grow (by first | exact hb | exact Gr.tr (Gr.alloc _ _) hb))); (try have HSV := Lib.hid (HSV.out.grow (by first | exact hb | exact Gr.tr (Gr.alloc _ _) hb))); (try have HB24 := Lib.hid (HB24.out.grow (by first | exact hb | exact Gr.tr (Gr.alloc _ _) hb))); (try have HB24 := Lib.hid ((Box.fresh wg [.int .i64 6, .int .i64 20] 24).grow hb)); clear hb hml hmr) | (go_at_call 16; refine (s16_00 bL bR _ HL.out HR.out).mono ?_; rintro e wb ⟨rfl, hb⟩; have HG := Lib.hid (show Gr w wb from by first | exact Gr.tr HG.out hb | exact Gr.tr (HG.out.tr (Gr.alloc _ _)) hb); (try have HPV := Lib.hid (HPV.out.grow (by first | exact hb | exact Gr.tr (Gr.alloc _ _) hb))); (try have HCV := Lib.hid (HCV.out.grow (by first | exact hb | exact Gr.tr (Gr.alloc _ _) hb))); (try have HSV := Lib.hid (HSV.out.grow (by first | exact hb | exact Gr.tr (Gr.alloc _ _) hb))); (try have HB24 := Lib.hid (HB24.out.grow (by first | exact hb | exact Gr.tr (Gr.alloc _ _) hb))); clear hb) | (go_at_call 27; refine (s27 bL bR _ HL.out HR.out).mono ?_; rintro e wc ⟨rfl, hb⟩; have HG := Lib.hid (show Gr w wc from by first | exact Gr.tr HG.out hb | exact Gr.tr (HG.out.tr (Gr.alloc _ _)) hb); (try have HPV := Lib.hid (HPV.out.grow (by first | exact hb | exact Gr.tr (Gr.alloc _ _) hb))); (try have HCV := Lib.hid (HCV.out.grow (by first | exact hb | exact Gr.tr (Gr.alloc _ _) hb))); (try have HSV := Lib.hid (HSV.out.grow (by first | exact hb | exact Gr.tr (Gr.alloc _ _) hb))); (try have HB24 := Lib.hid (HB24.out.grow (by first | exact hb | exact Gr.tr (Gr.alloc _ _) hb))); clear hb) | (go_at_call 30; refine (s30_0 bL bR _ HL.out HR.out).mono ?_; rintro e wg ⟨rfl, hb⟩; have HG := Lib.hid (show Gr w wg from by first | exact Gr.tr HG.out hb | exact Gr.tr (HG.out.tr (Gr.alloc _ _)) hb); (try have HPV := Lib.hid (HPV.out.grow (by first | exact hb | exact Gr.tr (Gr.alloc _ _) hb))); (try have HCV := Lib.hid (HCV.out.grow (by first | exact hb | exact Gr.tr (Gr.alloc _ _) hb))); (try have HSV := Lib.hid (HSV.out.grow (by first | exact hb | exact Gr.tr (Gr.alloc _ _) hb))); (try have HB24 := Lib.hid (HB24.out.grow (by first | exact hb | exact Gr.tr (Gr.alloc _ _) hb))); clear hb))
  have HB24 := Lib.hid (Box.fresh wg [.int .i64 8, .int .i64 12] 24)
  have HGA := Lib.hid (HG.out.tr (Gr.alloc wg (Obj.cells #[.int .i64 8, .int .i64 12] 24)))
  refine region2 32 ?_ ?_ ?_
  · kernel_rfl
  · kernel_rfl
  simp only [List.take_succ_cons, List.take_zero, List.drop_succ_cons, List.drop_zero]
  apply chain_eq (D := []) rfl (by kernel_rfl)
  · intro ρ W ⟨p1, p2, p3⟩ hG hF K hK; (try simp [FactsD] at hF); have ⟨hc, hf, hz⟩ := bcell (Gr.tr (Gr.drew _) hG); go_simp; exact hK _ (gives_val)
  apply chain_leq (D := [(24, some 0)]) (by kernel_rfl)
  · intro ρ W hF; (try simp [FactsD] at hF); simp [Lets, *]
  · intro ρ W ⟨p1, p2, p3⟩ hG hF K hK; (try simp [FactsD] at hF); have ⟨hc, hf, hz⟩ := bcell (Gr.tr (Gr.drew _) hG); go_simp; exact hK _ (gives_call (alive_any _))
  apply chain_eq (D := [(24, some 1), (25, some 0)]) rfl (by kernel_rfl)
  · intro ρ W ⟨p1, p2, p3⟩ hG hF K hK; (try simp [FactsD] at hF); have ⟨hc, hf, hz⟩ := bcell (Gr.tr (Gr.drew _) hG); go_simp; exact hK _ (gives_val)
  apply chain_eq (D := [(26, some 0)]) rfl (by kernel_rfl)
  · intro ρ W ⟨p1, p2, p3⟩ hG hF K hK; (try simp [FactsD] at hF); have ⟨hc, hf, hz⟩ := bcell (Gr.tr (Gr.drew _) hG); go_simp; exact hK _ (gives_val)
  apply chain_leq (D := [(1, none), (27, some 0)]) (by kernel_rfl)
  · intro ρ W hF; (try simp [FactsD] at hF); simp [Lets, *]
  · intro ρ W ⟨p1, p2, p3⟩ hG hF K hK; (try simp [FactsD] at hF); have ⟨hc, hf, hz⟩ := bcell (Gr.tr (Gr.drew _) hG); go_simp; exact hK _ (gives_val)
  apply chain_eq (D := [(27, some 1), (28, some 0)]) rfl (by kernel_rfl)
  · intro ρ W ⟨p1, p2, p3⟩ hG hF K hK; (try simp [FactsD] at hF); have ⟨hc, hf, hz⟩ := bcell (Gr.tr (Gr.drew _) hG); go_simp; exact hK _ (gives_val)
  apply chain_eq (D := [(29, some 0)]) rfl (by kernel_rfl)
  · intro ρ W ⟨p1, p2, p3⟩ hG hF K hK; (try simp [FactsD] at hF); have ⟨hc, hf, hz⟩ := bcell (Gr.tr (Gr.drew _) hG); go_simp; exact hK _ (gives_val)
  apply chain_leq (D := [(2, none), (30, some 0)]) (by kernel_rfl)
  · intro ρ W hF; (try simp [FactsD] at hF); simp [Lets, *]
  · intro ρ W ⟨p1, p2, p3⟩ hG hF K hK; (try simp [FactsD] at hF); have ⟨hc, hf, hz⟩ := bcell (Gr.tr (Gr.drew _) hG); go_simp; exact hK _ (gives_val)
  apply chain_leq (D := [(31, some 0), (30, some 1)]) (by kernel_rfl)
  · intro ρ W hF; (try simp [FactsD] at hF); simp [Lets, *]
  · intro ρ W ⟨p1, p2, p3⟩ hG hF K hK; (try simp [FactsD] at hF); have ⟨hc, hf, hz⟩ := bcell (Gr.tr (Gr.drew _) hG); go_simp; exact hK _ (gives_val)
  apply chain_eq (D := [(30, some 2), (32, some 0)]) rfl (by kernel_rfl)
  · intro ρ W ⟨p1, p2, p3⟩ hG hF K hK; (try simp [FactsD] at hF); have ⟨hc, hf, hz⟩ := bcell (Gr.tr (Gr.drew _) hG); go_simp; exact hK _ (gives_val)
  apply chain_eq (D := [(33, some 0)]) rfl (by kernel_rfl)
  · intro ρ W ⟨p1, p2, p3⟩ hG hF K hK; (try simp [FactsD] at hF); have ⟨hc, hf, hz⟩ := bcell (Gr.tr (Gr.drew _) hG); go_simp; exact hK _ (gives_val)
  apply chain_leq (D := [(3, none), (34, some 0)]) (by kernel_rfl)
  · intro ρ W hF; (try simp [FactsD] at hF); simp [Lets, *]
  · intro ρ W ⟨p1, p2, p3⟩ hG hF K hK; (try simp [FactsD] at hF); have ⟨hc, hf, hz⟩ := bcell (Gr.tr (Gr.drew _) hG); go_simp; exact hK _ (gives_val)
  apply chain_leq (D := [(35, some 0), (34, some 1)]) (by kernel_rfl)
  · intro ρ W hF; (try simp [FactsD] at hF); simp [Lets, *]
  · intro ρ W ⟨p1, p2, p3⟩ hG hF K hK; (try simp [FactsD] at hF); have ⟨hc, hf, hz⟩ := bcell (Gr.tr (Gr.drew _) hG); go_simp; exact hK _ (gives_val)
  apply chain_eq (D := [(34, some 2), (36, some 0)]) rfl (by kernel_rfl)
  · intro ρ W ⟨p1, p2, p3⟩ hG hF K hK; (try simp [FactsD] at hF); have ⟨hc, hf, hz⟩ := bcell (Gr.tr (Gr.drew _) hG); go_simp; exact hK _ (gives_val)
  apply chain_eq (D := [(37, some 0)]) rfl (by kernel_rfl)
  · intro ρ W ⟨p1, p2, p3⟩ hG hF K hK; (try simp [FactsD] at hF); have ⟨hc, hf, hz⟩ := bcell (Gr.tr (Gr.drew _) hG); go_simp; exact hK _ (gives_val)
  apply chain_leq (D := [(4, none), (38, some 0)]) (by kernel_rfl)
  · intro ρ W hF; (try simp [FactsD] at hF); simp [Lets, *]
  · intro ρ W ⟨p1, p2, p3⟩ hG hF K hK; (try simp [FactsD] at hF); have ⟨hc, hf, hz⟩ := bcell (Gr.tr (Gr.drew _) hG); go_simp; exact hK _ (gives_val)
  apply chain_leq (D := [(39, some 0), (38, some 1)]) (by kernel_rfl)
  · intro ρ W hF; (try simp [FactsD] at hF); simp [Lets, *]
  · intro ρ W ⟨p1, p2, p3⟩ hG hF K hK; (try simp [FactsD] at hF); have ⟨hc, hf, hz⟩ := bcell (Gr.tr (Gr.drew _) hG); go_simp; exact hK _ (gives_val)
  apply chain_eq (D := [(38, some 2), (40, some 0)]) rfl (by kernel_rfl)
  · intro ρ W ⟨p1, p2, p3⟩ hG hF K hK; (try simp [FactsD] at hF); have ⟨hc, hf, hz⟩ := bcell (Gr.tr (Gr.drew _) hG); go_simp; exact hK _ (gives_val)
  apply chain_eq (D := [(41, some 0)]) rfl (by kernel_rfl)
  · intro ρ W ⟨p1, p2, p3⟩ hG hF K hK; (try simp [FactsD] at hF); have ⟨hc, hf, hz⟩ := bcell (Gr.tr (Gr.drew _) hG); go_simp; exact hK _ (gives_val)
  apply chain_leq (D := [(5, none), (42, some 0)]) (by kernel_rfl)
  · intro ρ W hF; (try simp [FactsD] at hF); simp [Lets, *]
  · intro ρ W ⟨p1, p2, p3⟩ hG hF K hK; (try simp [FactsD] at hF); have ⟨hc, hf, hz⟩ := bcell (Gr.tr (Gr.drew _) hG); go_simp; exact hK _ (gives_val)
  apply chain_leq (D := [(43, some 0), (42, some 1)]) (by kernel_rfl)
  · intro ρ W hF; (try simp [FactsD] at hF); simp [Lets, *]
  · intro ρ W ⟨p1, p2, p3⟩ hG hF K hK; (try simp [FactsD] at hF); have ⟨hc, hf, hz⟩ := bcell (Gr.tr (Gr.drew _) hG); go_simp; exact hK _ (gives_val)
  apply chain_eq (D := [(42, some 2), (44, some 0)]) rfl (by kernel_rfl)
  · intro ρ W ⟨p1, p2, p3⟩ hG hF K hK; (try simp [FactsD] at hF); have ⟨hc, hf, hz⟩ := bcell (Gr.tr (Gr.drew _) hG); go_simp; exact hK _ (gives_val)
  apply chain_eq (D := [(45, some 0)]) rfl (by kernel_rfl)
  · intro ρ W ⟨p1, p2, p3⟩ hG hF K hK; (try simp [FactsD] at hF); have ⟨hc, hf, hz⟩ := bcell (Gr.tr (Gr.drew _) hG); go_simp; exact hK _ (gives_val)
  apply chain_leq (D := [(6, none), (46, some 0)]) (by kernel_rfl)
  · intro ρ W hF; (try simp [FactsD] at hF); simp [Lets, *]
  · intro ρ W ⟨p1, p2, p3⟩ hG hF K hK; (try simp [FactsD] at hF); have ⟨hc, hf, hz⟩ := bcell (Gr.tr (Gr.drew _) hG); have q0 := (HB24.out.grow (Gr.tr (Gr.drew _) hG)).cell (i := 0) rfl; have q1 := (HB24.out.grow (Gr.tr (Gr.drew _) hG)).cell (i := 1) rfl; go_simp; exact hK _ (gives_val)
  apply chain_leq (D := [(46, some 1)]) (by kernel_rfl)
  · intro ρ W hF; (try simp [FactsD] at hF); simp [Lets, *]
  · intro ρ W ⟨p1, p2, p3⟩ hG hF K hK; (try simp [FactsD] at hF); have ⟨hc, hf, hz⟩ := bcell (Gr.tr (Gr.drew _) hG); go_simp; exact hK _ (gives_call (span35_any 8 12 _))
  apply chain_leq (D := [(47, some 1), (48, some 0), (46, some 2)]) (by kernel_rfl)
  · intro ρ W hF; (try simp [FactsD] at hF); simp [Lets, *]
  · intro ρ W ⟨p1, p2, p3⟩ hG hF K hK; (try simp [FactsD] at hF); have ⟨hc, hf, hz⟩ := bcell (Gr.tr (Gr.drew _) hG); go_simp; exact hK _ (gives_val)
  apply chain_eq (D := [(46, some 3), (49, some 0)]) rfl (by kernel_rfl)
  · intro ρ W ⟨p1, p2, p3⟩ hG hF K hK; (try simp [FactsD] at hF); have ⟨hc, hf, hz⟩ := bcell (Gr.tr (Gr.drew _) hG); go_simp; exact hK _ (gives_val)
  apply chain_eq (D := [(50, some 0)]) rfl (by kernel_rfl)
  · intro ρ W ⟨p1, p2, p3⟩ hG hF K hK; (try simp [FactsD] at hF); have ⟨hc, hf, hz⟩ := bcell (Gr.tr (Gr.drew _) hG); go_simp; exact hK _ (gives_val)
  apply chain_leq (D := [(7, none), (51, some 0)]) (by kernel_rfl)
  · intro ρ W hF; (try simp [FactsD] at hF); simp [Lets, *]
  · intro ρ W ⟨p1, p2, p3⟩ hG hF K hK; (try simp [FactsD] at hF); have ⟨hc, hf, hz⟩ := bcell (Gr.tr (Gr.drew _) hG); go_simp; exact hK _ (gives_val)
  apply chain_leq (D := [(52, some 0), (51, some 1)]) (by kernel_rfl)
  · intro ρ W hF; (try simp [FactsD] at hF); simp [Lets, *]
  · intro ρ W ⟨p1, p2, p3⟩ hG hF K hK; (try simp [FactsD] at hF); have ⟨hc, hf, hz⟩ := bcell (Gr.tr (Gr.drew _) hG); go_simp; exact hK _ (gives_val)
  apply chain_eq (D := [(51, some 2), (53, some 0)]) rfl (by kernel_rfl)
  · intro ρ W ⟨p1, p2, p3⟩ hG hF K hK; (try simp [FactsD] at hF); have ⟨hc, hf, hz⟩ := bcell (Gr.tr (Gr.drew _) hG); go_simp; exact hK _ (gives_val)
  apply chain_eq (D := [(54, some 0)]) rfl (by kernel_rfl)
  · intro ρ W ⟨p1, p2, p3⟩ hG hF K hK; (try simp [FactsD] at hF); have ⟨hc, hf, hz⟩ := bcell (Gr.tr (Gr.drew _) hG); go_simp; exact hK _ (gives_val)
  refine chain_done ?_
  intro vs W hG hV
  obtain ⟨e31, -⟩ := hV
  simp only [Nat.reduceSub] at e31
  set_option maxRecDepth 100000 in
  simp only [lay, Act.put, List.getElem?_toArray, List.getElem?_cons_succ, List.getElem?_cons_zero, Option.bind_some, List.setIfInBounds_toArray, List.set_cons_succ, List.set_cons_zero]
  generalize vs 0 = v0
  generalize vs 1 = v1
  generalize vs 2 = v2
  generalize vs 3 = v3
  generalize vs 4 = v4
  generalize vs 5 = v5
  generalize vs 6 = v6
  generalize vs 7 = v7
  generalize vs 8 = v8
  generalize vs 9 = v9
  generalize vs 10 = v10
  generalize vs 11 = v11
  generalize vs 12 = v12
  generalize vs 13 = v13
  generalize vs 14 = v14
  generalize vs 15 = v15
  generalize vs 16 = v16
  generalize vs 17 = v17
  generalize vs 18 = v18
  generalize vs 19 = v19
  generalize vs 20 = v20
  generalize vs 21 = v21
  generalize vs 22 = v22
  generalize vs 23 = v23
  generalize vs 24 = v24
  generalize vs 25 = v25
  generalize vs 26 = v26
  generalize vs 27 = v27
  generalize vs 28 = v28
  generalize vs 29 = v29
  generalize vs 30 = v30
  generalize vs 31 = v31 at *
  subst e31
  obtain ⟨hc, hf, hz⟩ := bcell hG
  go_wp2_with fail
  go_ret
  exact ⟨rfl, by first | exact Gr.tr HGA.out hG | exact Gr.tr (HGA.out.tr (Gr.drew _)) hG⟩

end Go.Proofs.Ytjlaoiimbhlafaa
end
