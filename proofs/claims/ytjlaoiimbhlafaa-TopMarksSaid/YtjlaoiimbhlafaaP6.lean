import Derived.Test.YtjlaoiimbhlafaaP5
set_option linter.unusedVariables false
set_option linter.unusedSimpArgs false
namespace Go.Proofs.Ytjlaoiimbhlafaa
open Go.RowKit Go.Shelf

open MW
/-- The marks of a row, as they lie. -/
def MksAt (l : List Mrk) (p : Option Addr) (w : World) : Prop :=
  l.length ≤ 1000 ∧ ∀ i m, l[i]? = some m → ∃ b o, p = some ⟨b, o, none⟩ ∧ b < w.heap.size ∧ w.cell? ⟨b, o + i * 4, none⟩ = some (.int .i64 m.a) ∧ w.cell? ⟨b, o + i * 4 + 1, none⟩ = some (.int .i64 m.b) ∧ w.cell? ⟨b, o + i * 4 + 2, none⟩ = some (.int .i64 m.c) ∧ w.cell? ⟨b, o + i * 4 + 3, none⟩ = some (.int .i64 m.d)
theorem MksAt.grow {l : List Mrk} {p : Option Addr} {w w' : World} (h : MksAt l p w) (hg : Gr w w') : MksAt l p w' :=
  ⟨h.1, fun i m hm => by
    obtain ⟨b, o, h1, h2, h3, h4, h5, h6⟩ := h.2 i m hm
    exact ⟨b, o, h1, (bcell hg).2.2 _ h2, by rw [(bcell hg).1 _ _ h2]; exact h3, by rw [(bcell hg).1 _ _ h2]; exact h4, by rw [(bcell hg).1 _ _ h2]; exact h5, by rw [(bcell hg).1 _ _ h2]; exact h6⟩⟩
def okRow (l : List Mrk) : Bool := decide (l.length ≤ 10) && l.all Mrk.ok
theorem okRow_no {l : List Mrk} (h : decide (l.length ≤ 10) = true) {n : Nat} {m : Mrk} (hm : l[n]? = some m) (hn : m.ok = false) : okRow l = false := by
  unfold okRow
  rw [h, Bool.true_and, List.all_eq_false]
  exact ⟨m, List.mem_of_getElem? hm, by rw [hn]; simp⟩
theorem okRow_yes {l : List Mrk} (h : decide (l.length ≤ 10) = true) (ha : ∀ (j : Nat) (m : Mrk), l[j]? = some m → m.ok = true) : okRow l = true := by
  unfold okRow
  rw [h, Bool.true_and, List.all_eq_true]
  intro m hm
  obtain ⟨j, hj⟩ := List.mem_iff_getElem?.1 hm
  exact ha j m hj

set_option maxHeartbeats 2000000 in
theorem validMarks_any (l : List Mrk) (p : Option Addr) (cap : Nat) (w : World) (hl : MksAt l p w) :
    Calls Try.prog 117 #[.slice p l.length cap] w fun e w' => e = .returned (.bool (okRow l)) ∧ Below w.heap.size w w' := by
  have HL := Lib.hid hl
  have hlen := hl.1
  clear hl
  cases h10 : decide (l.length ≤ 10) with
  | false =>
    have h1 : decide ((10 : Int) < l.length) = true := by simp at h10; simp; omega
    have h2 : decide (10 < l.length) = true := by simp at h10; simp; omega
    have h3 : okRow l = false := by unfold okRow; rw [h10]; rfl
    rw [h3]
    clear h3 h10
    go_enter Try.func117, Try.ntmps117
    go_wp2
    go_ret
    exact ⟨rfl, Below.refl _ _⟩
  | true =>
    have h1 : decide ((10 : Int) < l.length) = false := by simp at h10; simp; omega
    have h2 : decide (10 < l.length) = false := by simp at h10; simp; omega
    have H10 := Lib.hid h10
    clear h10
    go_enter Try.func117, Try.ntmps117
    go_wp2
    go_loopw [10] (fun t wr => ∃ n : Nat, n ≤ l.length ∧ t = .int .i64 n ∧ Hid (Gr w wr) ∧ Hid (∀ j m, j < n → l[j]? = some m → m.ok = true)) (fun t _ => (1000 - intOf t).toNat)
    case atStart => exact ⟨0, Nat.zero_le _, rfl, Lib.hid (Gr.same _), Lib.hid fun j m hj => absurd hj (by omega)⟩
    case round =>
      obtain ⟨n, hn, rfl, HG, HN⟩ := hrel
      by_cases hlt : n < l.length
      · have hd : decide ((n : Int) < l.length) = true := by simp; omega
        have hd' : decide (n < l.length) = true := by simp; omega
        obtain ⟨m, hm⟩ : ∃ m, l[n]? = some m := ⟨l[n], List.getElem?_eq_getElem hlt⟩
        obtain ⟨b, o, rfl, hb, z0, z1, z2, z3⟩ := (HL.out.grow HG.out).2 n m hm
        have HM := Lib.hid hm
        have HS1 := Lib.hid (fun W => span_any 0 65536 W)
        have HS2 := Lib.hid (fun W => span_any 0 1000 W)
        have HW1 := Lib.hid (fun W => within_any m.a m.b 0 65536 W)
        have HW2 := Lib.hid (fun W => within_any m.c m.d 0 1000 W)
        have HOK := Lib.hid (show m.ok = (okS m.a m.b 0 65536 && okS m.c m.d 0 1000) from rfl)
        unfold spV at HS1 HS2 HW1 HW2
        clear hm
        have HF := Lib.hid (Box.fresh wr [.int .i64 m.a, .int .i64 m.b, .int .i64 m.c, .int .i64 m.d] 65)
        cases ha : okS m.a m.b 0 65536 with
        | false =>
          rw [ha] at HW1
          have hno : m.ok = false := by have h9 := HOK.out; simp_all
          have HR := Lib.hid (okRow_no H10.out HM.out hno)
          clear ha hno
          go_wp2_with fail
          have HGQ := Lib.hid (show Gr w (wr.alloc (Obj.cells #[.int .i64 m.a, .int .i64 m.b, .int .i64 m.c, .int .i64 m.d] 65)) from HG.out.tr (Gr.alloc _ _))
          generalize wr.alloc (Obj.cells #[.int .i64 m.a, .int .i64 m.b, .int .i64 m.c, .int .i64 m.d] 65) = wq at *
          clear z0 z1 z2 z3
          obtain ⟨z0, z1, z2, z3⟩ := cells4 HF.out
          have zl := HF.out.lt
          refine region2 12 ?_ ?_ ?_
          · kernel_rfl
          · kernel_rfl
          simp only [List.take_succ_cons, List.take_zero, List.drop_succ_cons, List.drop_zero]
          apply chain_eq (D := [(4, none)]) rfl (by kernel_rfl)
          · intro ρ W ⟨p1, p2, p3⟩ hG hF K hK; (try simp [FactsD] at hF); have ⟨hc, hf, hz⟩ := bcell (Gr.tr (Gr.drew _) hG); go_simp; exact hK _ (gives_val)
          apply chain_eq (D := [(14, some 0)]) rfl (by kernel_rfl)
          · intro ρ W ⟨p1, p2, p3⟩ hG hF K hK; (try simp [FactsD] at hF); have ⟨hc, hf, hz⟩ := bcell (Gr.tr (Gr.drew _) hG); go_simp; exact hK _ (gives_val)
          apply chain_eq (D := []) rfl (by kernel_rfl)
          · intro ρ W ⟨p1, p2, p3⟩ hG hF K hK; (try simp [FactsD] at hF); have ⟨hc, hf, hz⟩ := bcell (Gr.tr (Gr.drew _) hG); go_simp; exact hK _ (gives_call (HS1.out _))
          apply chain_eq (D := [(15, some 1), (16, some 0)]) rfl (by kernel_rfl)
          · intro ρ W ⟨p1, p2, p3⟩ hG hF K hK; (try simp [FactsD] at hF); have ⟨hc, hf, hz⟩ := bcell (Gr.tr (Gr.drew _) hG); go_simp; exact hK _ (gives_call (HW1.out _))
          apply chain_eq (D := [(17, some 0)]) rfl (by kernel_rfl)
          · intro ρ W ⟨p1, p2, p3⟩ hG hF K hK; (try simp [FactsD] at hF); have ⟨hc, hf, hz⟩ := bcell (Gr.tr (Gr.drew _) hG); go_simp; exact hK _ (gives_val)
          apply chain_eq (D := [(18, some 0)]) rfl (by kernel_rfl)
          · intro ρ W ⟨p1, p2, p3⟩ hG hF K hK; (try simp [FactsD] at hF); have ⟨hc, hf, hz⟩ := bcell (Gr.tr (Gr.drew _) hG); go_simp; exact hK _ (gives_val)
          refine chain_skip (D := [(4, none), (19, some 0)]) (by kernel_rfl) ?_ ?_
          · intro ρ W hF; (try simp [FactsD] at hF); simp [Lets, *]
          refine chain_skip (D := [(20, some 0), (19, some 1)]) (by kernel_rfl) ?_ ?_
          · intro ρ W hF; (try simp [FactsD] at hF); simp [Lets, *]
          refine chain_skip (D := [(19, some 2)]) (by kernel_rfl) ?_ ?_
          · intro ρ W hF; (try simp [FactsD] at hF); simp [Lets, *]
          refine chain_skip (D := [(21, some 1), (22, some 0), (19, some 3)]) (by kernel_rfl) ?_ ?_
          · intro ρ W hF; (try simp [FactsD] at hF); simp [Lets, *]
          refine chain_skip (D := [(23, some 0), (19, some 4)]) (by kernel_rfl) ?_ ?_
          · intro ρ W hF; (try simp [FactsD] at hF); simp [Lets, *]
          apply chain_eq (D := [(19, some 5), (24, some 0)]) rfl (by kernel_rfl)
          · intro ρ W ⟨p1, p2, p3⟩ hG hF K hK; (try simp [FactsD] at hF); have ⟨hc, hf, hz⟩ := bcell (Gr.tr (Gr.drew _) hG); go_simp; exact hK _ (gives_val)
          refine chain_done ?_
          intro vs W hG hV
          obtain ⟨e11, -⟩ := hV
          simp only [Nat.reduceSub] at e11
          simp only [lay, Act.put, List.getElem?_toArray, List.getElem?_cons_succ, List.getElem?_cons_zero, Option.bind_some, List.setIfInBounds_toArray, List.set_cons_succ, List.set_cons_zero]
          generalize vs 0 = v0
          generalize vs 1 = v1
          generalize vs 2 = v2
          generalize vs 3 = v3
          generalize vs 4 = v4
          generalize vs 5 = v5
          generalize vs 6 = v6
          generalize vs 7 = v7
          generalize vs 8 = v8
          generalize vs 9 = v9
          generalize vs 10 = v10
          generalize vs 11 = v11 at *
          subst e11
          obtain ⟨hc, hf, hz⟩ := bcell hG
          have HGW := Lib.hid (HGQ.out.tr hG)
          clear hG
          go_wp2_with fail
          go_ret
          exact ⟨by rw [HR.out]; rfl, HGW.out⟩
        | true =>
          rw [ha] at HW1
          cases hb' : okS m.c m.d 0 1000 with
          | false =>
            rw [hb'] at HW2
            have hno : m.ok = false := by have h9 := HOK.out; simp_all
            have HR := Lib.hid (okRow_no H10.out HM.out hno)
            clear ha hno hb'
            go_wp2_with fail
            have HGQ := Lib.hid (show Gr w (wr.alloc (Obj.cells #[.int .i64 m.a, .int .i64 m.b, .int .i64 m.c, .int .i64 m.d] 65)) from HG.out.tr (Gr.alloc _ _))
            generalize wr.alloc (Obj.cells #[.int .i64 m.a, .int .i64 m.b, .int .i64 m.c, .int .i64 m.d] 65) = wq at *
            clear z0 z1 z2 z3
            obtain ⟨z0, z1, z2, z3⟩ := cells4 HF.out
            have zl := HF.out.lt
            refine region2 12 ?_ ?_ ?_
            · kernel_rfl
            · kernel_rfl
            simp only [List.take_succ_cons, List.take_zero, List.drop_succ_cons, List.drop_zero]
            apply chain_eq (D := [(4, none)]) rfl (by kernel_rfl)
            · intro ρ W ⟨p1, p2, p3⟩ hG hF K hK; (try simp [FactsD] at hF); have ⟨hc, hf, hz⟩ := bcell (Gr.tr (Gr.drew _) hG); go_simp; exact hK _ (gives_val)
            apply chain_eq (D := [(14, some 0)]) rfl (by kernel_rfl)
            · intro ρ W ⟨p1, p2, p3⟩ hG hF K hK; (try simp [FactsD] at hF); have ⟨hc, hf, hz⟩ := bcell (Gr.tr (Gr.drew _) hG); go_simp; exact hK _ (gives_val)
            apply chain_eq (D := []) rfl (by kernel_rfl)
            · intro ρ W ⟨p1, p2, p3⟩ hG hF K hK; (try simp [FactsD] at hF); have ⟨hc, hf, hz⟩ := bcell (Gr.tr (Gr.drew _) hG); go_simp; exact hK _ (gives_call (HS1.out _))
            apply chain_eq (D := [(15, some 1), (16, some 0)]) rfl (by kernel_rfl)
            · intro ρ W ⟨p1, p2, p3⟩ hG hF K hK; (try simp [FactsD] at hF); have ⟨hc, hf, hz⟩ := bcell (Gr.tr (Gr.drew _) hG); go_simp; exact hK _ (gives_call (HW1.out _))
            apply chain_eq (D := [(17, some 0)]) rfl (by kernel_rfl)
            · intro ρ W ⟨p1, p2, p3⟩ hG hF K hK; (try simp [FactsD] at hF); have ⟨hc, hf, hz⟩ := bcell (Gr.tr (Gr.drew _) hG); go_simp; exact hK _ (gives_val)
            apply chain_eq (D := [(18, some 0)]) rfl (by kernel_rfl)
            · intro ρ W ⟨p1, p2, p3⟩ hG hF K hK; (try simp [FactsD] at hF); have ⟨hc, hf, hz⟩ := bcell (Gr.tr (Gr.drew _) hG); go_simp; exact hK _ (gives_val)
            apply chain_leq (D := [(4, none), (19, some 0)]) (by kernel_rfl)
            · intro ρ W hF; (try simp [FactsD] at hF); simp [Lets, *]
            · intro ρ W ⟨p1, p2, p3⟩ hG hF K hK; (try simp [FactsD] at hF); have ⟨hc, hf, hz⟩ := bcell (Gr.tr (Gr.drew _) hG); go_simp; exact hK _ (gives_val)
            apply chain_leq (D := [(20, some 0), (19, some 1)]) (by kernel_rfl)
            · intro ρ W hF; (try simp [FactsD] at hF); simp [Lets, *]
            · intro ρ W ⟨p1, p2, p3⟩ hG hF K hK; (try simp [FactsD] at hF); have ⟨hc, hf, hz⟩ := bcell (Gr.tr (Gr.drew _) hG); go_simp; exact hK _ (gives_val)
            apply chain_leq (D := [(19, some 2)]) (by kernel_rfl)
            · intro ρ W hF; (try simp [FactsD] at hF); simp [Lets, *]
            · intro ρ W ⟨p1, p2, p3⟩ hG hF K hK; (try simp [FactsD] at hF); have ⟨hc, hf, hz⟩ := bcell (Gr.tr (Gr.drew _) hG); go_simp; exact hK _ (gives_call (HS2.out _))
            apply chain_leq (D := [(21, some 1), (22, some 0), (19, some 3)]) (by kernel_rfl)
            · intro ρ W hF; (try simp [FactsD] at hF); simp [Lets, *]
            · intro ρ W ⟨p1, p2, p3⟩ hG hF K hK; (try simp [FactsD] at hF); have ⟨hc, hf, hz⟩ := bcell (Gr.tr (Gr.drew _) hG); go_simp; exact hK _ (gives_call (HW2.out _))
            apply chain_leq (D := [(23, some 0), (19, some 4)]) (by kernel_rfl)
            · intro ρ W hF; (try simp [FactsD] at hF); simp [Lets, *]
            · intro ρ W ⟨p1, p2, p3⟩ hG hF K hK; (try simp [FactsD] at hF); have ⟨hc, hf, hz⟩ := bcell (Gr.tr (Gr.drew _) hG); go_simp; exact hK _ (gives_val)
            apply chain_eq (D := [(19, some 5), (24, some 0)]) rfl (by kernel_rfl)
            · intro ρ W ⟨p1, p2, p3⟩ hG hF K hK; (try simp [FactsD] at hF); have ⟨hc, hf, hz⟩ := bcell (Gr.tr (Gr.drew _) hG); go_simp; exact hK _ (gives_val)
            refine chain_done ?_
            intro vs W hG hV
            obtain ⟨e11, -⟩ := hV
            simp only [Nat.reduceSub] at e11
            simp only [lay, Act.put, List.getElem?_toArray, List.getElem?_cons_succ, List.getElem?_cons_zero, Option.bind_some, List.setIfInBounds_toArray, List.set_cons_succ, List.set_cons_zero]
            generalize vs 0 = v0
            generalize vs 1 = v1
            generalize vs 2 = v2
            generalize vs 3 = v3
            generalize vs 4 = v4
            generalize vs 5 = v5
            generalize vs 6 = v6
            generalize vs 7 = v7
            generalize vs 8 = v8
            generalize vs 9 = v9
            generalize vs 10 = v10
            generalize vs 11 = v11 at *
            subst e11
            obtain ⟨hc, hf, hz⟩ := bcell hG
            have HGW := Lib.hid (HGQ.out.tr hG)
            clear hG
            go_wp2_with fail
            go_ret
            exact ⟨by rw [HR.out]; rfl, HGW.out⟩
          | true =>
            rw [hb'] at HW2
            have HY := Lib.hid (show m.ok = true by have h9 := HOK.out; simp_all)
            clear ha hb'
            go_wp2_with fail
            have HGQ := Lib.hid (show Gr w (wr.alloc (Obj.cells #[.int .i64 m.a, .int .i64 m.b, .int .i64 m.c, .int .i64 m.d] 65)) from HG.out.tr (Gr.alloc _ _))
            generalize wr.alloc (Obj.cells #[.int .i64 m.a, .int .i64 m.b, .int .i64 m.c, .int .i64 m.d] 65) = wq at *
            clear z0 z1 z2 z3
            obtain ⟨z0, z1, z2, z3⟩ := cells4 HF.out
            have zl := HF.out.lt
            refine region2 12 ?_ ?_ ?_
            · kernel_rfl
            · kernel_rfl
            simp only [List.take_succ_cons, List.take_zero, List.drop_succ_cons, List.drop_zero]
            apply chain_eq (D := [(4, none)]) rfl (by kernel_rfl)
            · intro ρ W ⟨p1, p2, p3⟩ hG hF K hK; (try simp [FactsD] at hF); have ⟨hc, hf, hz⟩ := bcell (Gr.tr (Gr.drew _) hG); go_simp; exact hK _ (gives_val)
            apply chain_eq (D := [(14, some 0)]) rfl (by kernel_rfl)
            · intro ρ W ⟨p1, p2, p3⟩ hG hF K hK; (try simp [FactsD] at hF); have ⟨hc, hf, hz⟩ := bcell (Gr.tr (Gr.drew _) hG); go_simp; exact hK _ (gives_val)
            apply chain_eq (D := []) rfl (by kernel_rfl)
            · intro ρ W ⟨p1, p2, p3⟩ hG hF K hK; (try simp [FactsD] at hF); have ⟨hc, hf, hz⟩ := bcell (Gr.tr (Gr.drew _) hG); go_simp; exact hK _ (gives_call (HS1.out _))
            apply chain_eq (D := [(15, some 1), (16, some 0)]) rfl (by kernel_rfl)
            · intro ρ W ⟨p1, p2, p3⟩ hG hF K hK; (try simp [FactsD] at hF); have ⟨hc, hf, hz⟩ := bcell (Gr.tr (Gr.drew _) hG); go_simp; exact hK _ (gives_call (HW1.out _))
            apply chain_eq (D := [(17, some 0)]) rfl (by kernel_rfl)
            · intro ρ W ⟨p1, p2, p3⟩ hG hF K hK; (try simp [FactsD] at hF); have ⟨hc, hf, hz⟩ := bcell (Gr.tr (Gr.drew _) hG); go_simp; exact hK _ (gives_val)
            apply chain_eq (D := [(18, some 0)]) rfl (by kernel_rfl)
            · intro ρ W ⟨p1, p2, p3⟩ hG hF K hK; (try simp [FactsD] at hF); have ⟨hc, hf, hz⟩ := bcell (Gr.tr (Gr.drew _) hG); go_simp; exact hK _ (gives_val)
            apply chain_leq (D := [(4, none), (19, some 0)]) (by kernel_rfl)
            · intro ρ W hF; (try simp [FactsD] at hF); simp [Lets, *]
            · intro ρ W ⟨p1, p2, p3⟩ hG hF K hK; (try simp [FactsD] at hF); have ⟨hc, hf, hz⟩ := bcell (Gr.tr (Gr.drew _) hG); go_simp; exact hK _ (gives_val)
            apply chain_leq (D := [(20, some 0), (19, some 1)]) (by kernel_rfl)
            · intro ρ W hF; (try simp [FactsD] at hF); simp [Lets, *]
            · intro ρ W ⟨p1, p2, p3⟩ hG hF K hK; (try simp [FactsD] at hF); have ⟨hc, hf, hz⟩ := bcell (Gr.tr (Gr.drew _) hG); go_simp; exact hK _ (gives_val)
            apply chain_leq (D := [(19, some 2)]) (by kernel_rfl)
            · intro ρ W hF; (try simp [FactsD] at hF); simp [Lets, *]
            · intro ρ W ⟨p1, p2, p3⟩ hG hF K hK; (try simp [FactsD] at hF); have ⟨hc, hf, hz⟩ := bcell (Gr.tr (Gr.drew _) hG); go_simp; exact hK _ (gives_call (HS2.out _))
            apply chain_leq (D := [(21, some 1), (22, some 0), (19, some 3)]) (by kernel_rfl)
            · intro ρ W hF; (try simp [FactsD] at hF); simp [Lets, *]
            · intro ρ W ⟨p1, p2, p3⟩ hG hF K hK; (try simp [FactsD] at hF); have ⟨hc, hf, hz⟩ := bcell (Gr.tr (Gr.drew _) hG); go_simp; exact hK _ (gives_call (HW2.out _))
            apply chain_leq (D := [(23, some 0), (19, some 4)]) (by kernel_rfl)
            · intro ρ W hF; (try simp [FactsD] at hF); simp [Lets, *]
            · intro ρ W ⟨p1, p2, p3⟩ hG hF K hK; (try simp [FactsD] at hF); have ⟨hc, hf, hz⟩ := bcell (Gr.tr (Gr.drew _) hG); go_simp; exact hK _ (gives_val)
            apply chain_eq (D := [(19, some 5), (24, some 0)]) rfl (by kernel_rfl)
            · intro ρ W ⟨p1, p2, p3⟩ hG hF K hK; (try simp [FactsD] at hF); have ⟨hc, hf, hz⟩ := bcell (Gr.tr (Gr.drew _) hG); go_simp; exact hK _ (gives_val)
            refine chain_done ?_
            intro vs W hG hV
            obtain ⟨e11, -⟩ := hV
            simp only [Nat.reduceSub] at e11
            simp only [lay, Act.put, List.getElem?_toArray, List.getElem?_cons_succ, List.getElem?_cons_zero, Option.bind_some, List.setIfInBounds_toArray, List.set_cons_succ, List.set_cons_zero]
            generalize vs 0 = v0
            generalize vs 1 = v1
            generalize vs 2 = v2
            generalize vs 3 = v3
            generalize vs 4 = v4
            generalize vs 5 = v5
            generalize vs 6 = v6
            generalize vs 7 = v7
            generalize vs 8 = v8
            generalize vs 9 = v9
            generalize vs 10 = v10
            generalize vs 11 = v11 at *
            subst e11
            obtain ⟨hc, hf, hz⟩ := bcell hG
            have HGW := Lib.hid (HGQ.out.tr hG)
            clear hG
            go_wp2_with fail
            refine ⟨⟨n + 1, by omega, by go_num, HGW, Lib.hid fun j m' hj hm' => ?_⟩, by simp [intOf]; omega⟩
            by_cases hjn : j = n
            · subst hjn
              have := HM.out
              rw [hm'] at this
              cases this
              exact HY.out
            · exact HN.out j m' (by omega) hm'
      · have hnn : n = l.length := by omega
        have hd : decide ((n : Int) < l.length) = false := by simp; omega
        have HR := Lib.hid (okRow_yes H10.out (fun j m hm => HN.out j m (by rw [hnn]; exact (List.getElem?_eq_some_iff.1 hm).1) hm))
        clear hnn
        go_wp2_with fail
        go_ret
        exact ⟨by rw [HR.out]; rfl, HG.out⟩

end Go.Proofs.Ytjlaoiimbhlafaa
namespace Go.Proofs.Ytjlaoiimbhlafaa
open Go.RowKit Go.Shelf

open MW
/-- Rows. -/
structure Rr where
  L : List Mrk
  lp : Option Addr
  lc : Nat
  R : List Mrk
  rp : Option Addr
  rc : Nat
  s : Int
  t : Int
  h : Int
def Rr.cs (r : Rr) : List Value := [.slice r.lp r.L.length r.lc, .slice r.rp r.R.length r.rc, .int .i64 r.s, .int .i64 r.t, .int .i64 r.h]
def Rr.val (r : Rr) : Value := .agg #[.slice r.lp r.L.length r.lc, .slice r.rp r.R.length r.rc, .int .i64 r.s, .int .i64 r.t, .int .i64 r.h]
def Rr.ok (r : Rr) : Bool := (((okRow r.L && okRow r.R) && okS r.s r.t (-65536) 65536) && decide (0 ≤ r.h)) && decide (r.h ≤ 20)
set_option maxRecDepth 100000 in
set_option maxHeartbeats 2000000 in
theorem valid_L (r : Rr) (w : World) (hl : MksAt r.L r.lp w) (hr : MksAt r.R r.rp w) (h1 : okRow r.L = false) :
    Calls Try.prog 90 #[r.val] w fun e w' => e = .returned (.bool false) ∧ Below w.heap.size w w' := by
  have HL := Lib.hid (fun W (hg : Gr w W) => validMarks_any r.L r.lp r.lc W (hl.grow hg))
  have HR := Lib.hid (fun W (hg : Gr w W) => validMarks_any r.R r.rp r.rc W (hr.grow hg))
  have HS := Lib.hid (fun W => span_any (-65536) 65536 W)
  have HW := Lib.hid (fun W => within_any r.s r.t (-65536) 65536 W)
  unfold spV at HS HW
  unfold Rr.val
  simp only [h1] at HL HR HW
  clear hl hr
  go_enter Try.func90, Try.ntmps90
  go_wp2_with fail
  refine region2 25 ?_ ?_ ?_
  · kernel_rfl
  · kernel_rfl
  simp only [List.take_succ_cons, List.take_zero, List.drop_succ_cons, List.drop_zero]
  apply chain_eq (D := [(1, none)]) rfl (by kernel_rfl)
  · intro ρ W ⟨p1, p2, p3⟩ hG hF K hK; (try simp [FactsD] at hF); have ⟨hc, hf, hz⟩ := bcell (Gr.tr (Gr.drew _) hG); go_simp; exact hK _ (gives_val)
  apply chain_eq (D := [(3, some 0)]) rfl (by kernel_rfl)
  · intro ρ W ⟨p1, p2, p3⟩ hG hF K hK; (try simp [FactsD] at hF); have ⟨hc, hf, hz⟩ := bcell (Gr.tr (Gr.drew _) hG); go_simp; exact hK _ (gives_val)
  apply chain_eq (D := [(4, some 0)]) rfl (by kernel_rfl)
  · intro ρ W ⟨p1, p2, p3⟩ hG hF K hK; (try simp [FactsD] at hF); have ⟨hc, hf, hz⟩ := bcell (Gr.tr (Gr.drew _) hG); go_simp; exact hK _ (gives_call (HL.out _ (Gr.tr (Gr.alloc _ _) (Gr.tr (Gr.drew _) hG))))
  apply chain_eq (D := [(5, some 0)]) rfl (by kernel_rfl)
  · intro ρ W ⟨p1, p2, p3⟩ hG hF K hK; (try simp [FactsD] at hF); have ⟨hc, hf, hz⟩ := bcell (Gr.tr (Gr.drew _) hG); go_simp; exact hK _ (gives_val)
  refine chain_skip (D := [(1, none), (6, some 0)]) (by kernel_rfl) ?_ ?_
  · intro ρ W hF; (try simp [FactsD] at hF); simp [Lets, *]
  refine chain_skip (D := [(7, some 0), (6, some 1)]) (by kernel_rfl) ?_ ?_
  · intro ρ W hF; (try simp [FactsD] at hF); simp [Lets, *]
  refine chain_skip (D := [(8, some 0), (6, some 2)]) (by kernel_rfl) ?_ ?_
  · intro ρ W hF; (try simp [FactsD] at hF); simp [Lets, *]
  apply chain_eq (D := [(6, some 3), (9, some 0)]) rfl (by kernel_rfl)
  · intro ρ W ⟨p1, p2, p3⟩ hG hF K hK; (try simp [FactsD] at hF); have ⟨hc, hf, hz⟩ := bcell (Gr.tr (Gr.drew _) hG); go_simp; exact hK _ (gives_val)
  apply chain_eq (D := [(10, some 0)]) rfl (by kernel_rfl)
  · intro ρ W ⟨p1, p2, p3⟩ hG hF K hK; (try simp [FactsD] at hF); have ⟨hc, hf, hz⟩ := bcell (Gr.tr (Gr.drew _) hG); go_simp; exact hK _ (gives_val)
  refine chain_skip (D := [(1, none), (11, some 0)]) (by kernel_rfl) ?_ ?_
  · intro ρ W hF; (try simp [FactsD] at hF); simp [Lets, *]
  refine chain_skip (D := [(12, some 0), (11, some 1)]) (by kernel_rfl) ?_ ?_
  · intro ρ W hF; (try simp [FactsD] at hF); simp [Lets, *]
  refine chain_skip (D := [(11, some 2)]) (by kernel_rfl) ?_ ?_
  · intro ρ W hF; (try simp [FactsD] at hF); simp [Lets, *]
  refine chain_skip (D := [(13, some 1), (14, some 0), (11, some 3)]) (by kernel_rfl) ?_ ?_
  · intro ρ W hF; (try simp [FactsD] at hF); simp [Lets, *]
  apply chain_eq (D := [(11, some 4), (15, some 0)]) rfl (by kernel_rfl)
  · intro ρ W ⟨p1, p2, p3⟩ hG hF K hK; (try simp [FactsD] at hF); have ⟨hc, hf, hz⟩ := bcell (Gr.tr (Gr.drew _) hG); go_simp; exact hK _ (gives_val)
  apply chain_eq (D := [(16, some 0)]) rfl (by kernel_rfl)
  · intro ρ W ⟨p1, p2, p3⟩ hG hF K hK; (try simp [FactsD] at hF); have ⟨hc, hf, hz⟩ := bcell (Gr.tr (Gr.drew _) hG); go_simp; exact hK _ (gives_val)
  refine chain_skip (D := [(1, none), (17, some 0)]) (by kernel_rfl) ?_ ?_
  · intro ρ W hF; (try simp [FactsD] at hF); simp [Lets, *]
  refine chain_skip (D := [(18, some 0), (17, some 1)]) (by kernel_rfl) ?_ ?_
  · intro ρ W hF; (try simp [FactsD] at hF); simp [Lets, *]
  refine chain_skip (D := [(19, some 0), (17, some 2)]) (by kernel_rfl) ?_ ?_
  · intro ρ W hF; (try simp [FactsD] at hF); simp [Lets, *]
  apply chain_eq (D := [(17, some 3), (20, some 0)]) rfl (by kernel_rfl)
  · intro ρ W ⟨p1, p2, p3⟩ hG hF K hK; (try simp [FactsD] at hF); have ⟨hc, hf, hz⟩ := bcell (Gr.tr (Gr.drew _) hG); go_simp; exact hK _ (gives_val)
  apply chain_eq (D := [(21, some 0)]) rfl (by kernel_rfl)
  · intro ρ W ⟨p1, p2, p3⟩ hG hF K hK; (try simp [FactsD] at hF); have ⟨hc, hf, hz⟩ := bcell (Gr.tr (Gr.drew _) hG); go_simp; exact hK _ (gives_val)
  refine chain_skip (D := [(1, none), (22, some 0)]) (by kernel_rfl) ?_ ?_
  · intro ρ W hF; (try simp [FactsD] at hF); simp [Lets, *]
  refine chain_skip (D := [(23, some 0), (22, some 1)]) (by kernel_rfl) ?_ ?_
  · intro ρ W hF; (try simp [FactsD] at hF); simp [Lets, *]
  refine chain_skip (D := [(24, some 0), (22, some 2)]) (by kernel_rfl) ?_ ?_
  · intro ρ W hF; (try simp [FactsD] at hF); simp [Lets, *]
  apply chain_eq (D := [(22, some 3), (25, some 0)]) rfl (by kernel_rfl)
  · intro ρ W ⟨p1, p2, p3⟩ hG hF K hK; (try simp [FactsD] at hF); have ⟨hc, hf, hz⟩ := bcell (Gr.tr (Gr.drew _) hG); go_simp; exact hK _ (gives_val)
  apply chain_eq (D := [(26, some 0)]) rfl (by kernel_rfl)
  · intro ρ W ⟨p1, p2, p3⟩ hG hF K hK; (try simp [FactsD] at hF); have ⟨hc, hf, hz⟩ := bcell (Gr.tr (Gr.drew _) hG); go_simp; exact hK _ (gives_val)
  refine chain_done ?_
  intro vs W hG hV
  obtain ⟨e24, -⟩ := hV
  simp only [Nat.reduceSub] at e24
  simp only [lay, Act.put, List.getElem?_toArray, List.getElem?_cons_succ, List.getElem?_cons_zero, Option.bind_some, List.setIfInBounds_toArray, List.set_cons_succ, List.set_cons_zero]
  generalize vs 0 = v0
  generalize vs 1 = v1
  generalize vs 2 = v2
  generalize vs 3 = v3
  generalize vs 4 = v4
  generalize vs 5 = v5
  generalize vs 6 = v6
  generalize vs 7 = v7
  generalize vs 8 = v8
  generalize vs 9 = v9
  generalize vs 10 = v10
  generalize vs 11 = v11
  generalize vs 12 = v12
  generalize vs 13 = v13
  generalize vs 14 = v14
  generalize vs 15 = v15
  generalize vs 16 = v16
  generalize vs 17 = v17
  generalize vs 18 = v18
  generalize vs 19 = v19
  generalize vs 20 = v20
  generalize vs 21 = v21
  generalize vs 22 = v22
  generalize vs 23 = v23
  generalize vs 24 = v24 at *
  subst e24
  obtain ⟨hc, hf, hz⟩ := bcell hG
  have HG := Lib.hid hG
  clear hG
  go_wp2_with fail
  go_ret
  exact ⟨rfl, bgr ((Below.refl _ _).alloc (by first | (simp; done) | (simp; omega) | omega) _) (by first | (simp; done) | (simp; omega) | omega) HG.out⟩
set_option maxRecDepth 100000 in
set_option maxHeartbeats 2000000 in
theorem valid_R (r : Rr) (w : World) (hl : MksAt r.L r.lp w) (hr : MksAt r.R r.rp w) (h1 : okRow r.L = true) (h2 : okRow r.R = false) :
    Calls Try.prog 90 #[r.val] w fun e w' => e = .returned (.bool false) ∧ Below w.heap.size w w' := by
  have HL := Lib.hid (fun W (hg : Gr w W) => validMarks_any r.L r.lp r.lc W (hl.grow hg))
  have HR := Lib.hid (fun W (hg : Gr w W) => validMarks_any r.R r.rp r.rc W (hr.grow hg))
  have HS := Lib.hid (fun W => span_any (-65536) 65536 W)
  have HW := Lib.hid (fun W => within_any r.s r.t (-65536) 65536 W)
  unfold spV at HS HW
  unfold Rr.val
  simp only [h1, h2] at HL HR HW
  clear hl hr
  go_enter Try.func90, Try.ntmps90
  go_wp2_with fail
  refine region2 25 ?_ ?_ ?_
  · kernel_rfl
  · kernel_rfl
  simp only [List.take_succ_cons, List.take_zero, List.drop_succ_cons, List.drop_zero]
  apply chain_eq (D := [(1, none)]) rfl (by kernel_rfl)
  · intro ρ W ⟨p1, p2, p3⟩ hG hF K hK; (try simp [FactsD] at hF); have ⟨hc, hf, hz⟩ := bcell (Gr.tr (Gr.drew _) hG); go_simp; exact hK _ (gives_val)
  apply chain_eq (D := [(3, some 0)]) rfl (by kernel_rfl)
  · intro ρ W ⟨p1, p2, p3⟩ hG hF K hK; (try simp [FactsD] at hF); have ⟨hc, hf, hz⟩ := bcell (Gr.tr (Gr.drew _) hG); go_simp; exact hK _ (gives_val)
  apply chain_eq (D := [(4, some 0)]) rfl (by kernel_rfl)
  · intro ρ W ⟨p1, p2, p3⟩ hG hF K hK; (try simp [FactsD] at hF); have ⟨hc, hf, hz⟩ := bcell (Gr.tr (Gr.drew _) hG); go_simp; exact hK _ (gives_call (HL.out _ (Gr.tr (Gr.alloc _ _) (Gr.tr (Gr.drew _) hG))))
  apply chain_eq (D := [(5, some 0)]) rfl (by kernel_rfl)
  · intro ρ W ⟨p1, p2, p3⟩ hG hF K hK; (try simp [FactsD] at hF); have ⟨hc, hf, hz⟩ := bcell (Gr.tr (Gr.drew _) hG); go_simp; exact hK _ (gives_val)
  apply chain_leq (D := [(1, none), (6, some 0)]) (by kernel_rfl)
  · intro ρ W hF; (try simp [FactsD] at hF); simp [Lets, *]
  · intro ρ W ⟨p1, p2, p3⟩ hG hF K hK; (try simp [FactsD] at hF); have ⟨hc, hf, hz⟩ := bcell (Gr.tr (Gr.drew _) hG); go_simp; exact hK _ (gives_val)
  apply chain_leq (D := [(7, some 0), (6, some 1)]) (by kernel_rfl)
  · intro ρ W hF; (try simp [FactsD] at hF); simp [Lets, *]
  · intro ρ W ⟨p1, p2, p3⟩ hG hF K hK; (try simp [FactsD] at hF); have ⟨hc, hf, hz⟩ := bcell (Gr.tr (Gr.drew _) hG); go_simp; exact hK _ (gives_val)
  apply chain_leq (D := [(8, some 0), (6, some 2)]) (by kernel_rfl)
  · intro ρ W hF; (try simp [FactsD] at hF); simp [Lets, *]
  · intro ρ W ⟨p1, p2, p3⟩ hG hF K hK; (try simp [FactsD] at hF); have ⟨hc, hf, hz⟩ := bcell (Gr.tr (Gr.drew _) hG); go_simp; exact hK _ (gives_call (HR.out _ (Gr.tr (Gr.alloc _ _) (Gr.tr (Gr.drew _) hG))))
  apply chain_eq (D := [(6, some 3), (9, some 0)]) rfl (by kernel_rfl)
  · intro ρ W ⟨p1, p2, p3⟩ hG hF K hK; (try simp [FactsD] at hF); have ⟨hc, hf, hz⟩ := bcell (Gr.tr (Gr.drew _) hG); go_simp; exact hK _ (gives_val)
  apply chain_eq (D := [(10, some 0)]) rfl (by kernel_rfl)
  · intro ρ W ⟨p1, p2, p3⟩ hG hF K hK; (try simp [FactsD] at hF); have ⟨hc, hf, hz⟩ := bcell (Gr.tr (Gr.drew _) hG); go_simp; exact hK _ (gives_val)
  refine chain_skip (D := [(1, none), (11, some 0)]) (by kernel_rfl) ?_ ?_
  · intro ρ W hF; (try simp [FactsD] at hF); simp [Lets, *]
  refine chain_skip (D := [(12, some 0), (11, some 1)]) (by kernel_rfl) ?_ ?_
  · intro ρ W hF; (try simp [FactsD] at hF); simp [Lets, *]
  refine chain_skip (D := [(11, some 2)]) (by kernel_rfl) ?_ ?_
  · intro ρ W hF; (try simp [FactsD] at hF); simp [Lets, *]
  refine chain_skip (D := [(13, some 1), (14, some 0), (11, some 3)]) (by kernel_rfl) ?_ ?_
  · intro ρ W hF; (try simp [FactsD] at hF); simp [Lets, *]
  apply chain_eq (D := [(11, some 4), (15, some 0)]) rfl (by kernel_rfl)
  · intro ρ W ⟨p1, p2, p3⟩ hG hF K hK; (try simp [FactsD] at hF); have ⟨hc, hf, hz⟩ := bcell (Gr.tr (Gr.drew _) hG); go_simp; exact hK _ (gives_val)
  apply chain_eq (D := [(16, some 0)]) rfl (by kernel_rfl)
  · intro ρ W ⟨p1, p2, p3⟩ hG hF K hK; (try simp [FactsD] at hF); have ⟨hc, hf, hz⟩ := bcell (Gr.tr (Gr.drew _) hG); go_simp; exact hK _ (gives_val)
  refine chain_skip (D := [(1, none), (17, some 0)]) (by kernel_rfl) ?_ ?_
  · intro ρ W hF; (try simp [FactsD] at hF); simp [Lets, *]
  refine chain_skip (D := [(18, some 0), (17, some 1)]) (by kernel_rfl) ?_ ?_
  · intro ρ W hF; (try simp [FactsD] at hF); simp [Lets, *]
  refine chain_skip (D := [(19, some 0), (17, some 2)]) (by kernel_rfl) ?_ ?_
  · intro ρ W hF; (try simp [FactsD] at hF); simp [Lets, *]
  apply chain_eq (D := [(17, some 3), (20, some 0)]) rfl (by kernel_rfl)
  · intro ρ W ⟨p1, p2, p3⟩ hG hF K hK; (try simp [FactsD] at hF); have ⟨hc, hf, hz⟩ := bcell (Gr.tr (Gr.drew _) hG); go_simp; exact hK _ (gives_val)
  apply chain_eq (D := [(21, some 0)]) rfl (by kernel_rfl)
  · intro ρ W ⟨p1, p2, p3⟩ hG hF K hK; (try simp [FactsD] at hF); have ⟨hc, hf, hz⟩ := bcell (Gr.tr (Gr.drew _) hG); go_simp; exact hK _ (gives_val)
  refine chain_skip (D := [(1, none), (22, some 0)]) (by kernel_rfl) ?_ ?_
  · intro ρ W hF; (try simp [FactsD] at hF); simp [Lets, *]
  refine chain_skip (D := [(23, some 0), (22, some 1)]) (by kernel_rfl) ?_ ?_
  · intro ρ W hF; (try simp [FactsD] at hF); simp [Lets, *]
  refine chain_skip (D := [(24, some 0), (22, some 2)]) (by kernel_rfl) ?_ ?_
  · intro ρ W hF; (try simp [FactsD] at hF); simp [Lets, *]
  apply chain_eq (D := [(22, some 3), (25, some 0)]) rfl (by kernel_rfl)
  · intro ρ W ⟨p1, p2, p3⟩ hG hF K hK; (try simp [FactsD] at hF); have ⟨hc, hf, hz⟩ := bcell (Gr.tr (Gr.drew _) hG); go_simp; exact hK _ (gives_val)
  apply chain_eq (D := [(26, some 0)]) rfl (by kernel_rfl)
  · intro ρ W ⟨p1, p2, p3⟩ hG hF K hK; (try simp [FactsD] at hF); have ⟨hc, hf, hz⟩ := bcell (Gr.tr (Gr.drew _) hG); go_simp; exact hK _ (gives_val)
  refine chain_done ?_
  intro vs W hG hV
  obtain ⟨e24, -⟩ := hV
  simp only [Nat.reduceSub] at e24
  simp only [lay, Act.put, List.getElem?_toArray, List.getElem?_cons_succ, List.getElem?_cons_zero, Option.bind_some, List.setIfInBounds_toArray, List.set_cons_succ, List.set_cons_zero]
  generalize vs 0 = v0
  generalize vs 1 = v1
  generalize vs 2 = v2
  generalize vs 3 = v3
  generalize vs 4 = v4
  generalize vs 5 = v5
  generalize vs 6 = v6
  generalize vs 7 = v7
  generalize vs 8 = v8
  generalize vs 9 = v9
  generalize vs 10 = v10
  generalize vs 11 = v11
  generalize vs 12 = v12
  generalize vs 13 = v13
  generalize vs 14 = v14
  generalize vs 15 = v15
  generalize vs 16 = v16
  generalize vs 17 = v17
  generalize vs 18 = v18
  generalize vs 19 = v19
  generalize vs 20 = v20
  generalize vs 21 = v21
  generalize vs 22 = v22
  generalize vs 23 = v23
  generalize vs 24 = v24 at *
  subst e24
  obtain ⟨hc, hf, hz⟩ := bcell hG
  have HG := Lib.hid hG
  clear hG
  go_wp2_with fail
  go_ret
  exact ⟨rfl, bgr ((Below.refl _ _).alloc (by first | (simp; done) | (simp; omega) | omega) _) (by first | (simp; done) | (simp; omega) | omega) HG.out⟩
set_option maxRecDepth 100000 in
set_option maxHeartbeats 2000000 in
theorem valid_S (r : Rr) (w : World) (hl : MksAt r.L r.lp w) (hr : MksAt r.R r.rp w) (h1 : okRow r.L = true) (h2 : okRow r.R = true) (h3 : okS r.s r.t (-65536) 65536 = false) :
    Calls Try.prog 90 #[r.val] w fun e w' => e = .returned (.bool false) ∧ Below w.heap.size w w' := by
  have HL := Lib.hid (fun W (hg : Gr w W) => validMarks_any r.L r.lp r.lc W (hl.grow hg))
  have HR := Lib.hid (fun W (hg : Gr w W) => validMarks_any r.R r.rp r.rc W (hr.grow hg))
  have HS := Lib.hid (fun W => span_any (-65536) 65536 W)
  have HW := Lib.hid (fun W => within_any r.s r.t (-65536) 65536 W)
  unfold spV at HS HW
  unfold Rr.val
  simp only [h1, h2, h3] at HL HR HW
  clear hl hr
  go_enter Try.func90, Try.ntmps90
  go_wp2_with fail
  refine region2 25 ?_ ?_ ?_
  · kernel_rfl
  · kernel_rfl
  simp only [List.take_succ_cons, List.take_zero, List.drop_succ_cons, List.drop_zero]
  apply chain_eq (D := [(1, none)]) rfl (by kernel_rfl)
  · intro ρ W ⟨p1, p2, p3⟩ hG hF K hK; (try simp [FactsD] at hF); have ⟨hc, hf, hz⟩ := bcell (Gr.tr (Gr.drew _) hG); go_simp; exact hK _ (gives_val)
  apply chain_eq (D := [(3, some 0)]) rfl (by kernel_rfl)
  · intro ρ W ⟨p1, p2, p3⟩ hG hF K hK; (try simp [FactsD] at hF); have ⟨hc, hf, hz⟩ := bcell (Gr.tr (Gr.drew _) hG); go_simp; exact hK _ (gives_val)
  apply chain_eq (D := [(4, some 0)]) rfl (by kernel_rfl)
  · intro ρ W ⟨p1, p2, p3⟩ hG hF K hK; (try simp [FactsD] at hF); have ⟨hc, hf, hz⟩ := bcell (Gr.tr (Gr.drew _) hG); go_simp; exact hK _ (gives_call (HL.out _ (Gr.tr (Gr.alloc _ _) (Gr.tr (Gr.drew _) hG))))
  apply chain_eq (D := [(5, some 0)]) rfl (by kernel_rfl)
  · intro ρ W ⟨p1, p2, p3⟩ hG hF K hK; (try simp [FactsD] at hF); have ⟨hc, hf, hz⟩ := bcell (Gr.tr (Gr.drew _) hG); go_simp; exact hK _ (gives_val)
  apply chain_leq (D := [(1, none), (6, some 0)]) (by kernel_rfl)
  · intro ρ W hF; (try simp [FactsD] at hF); simp [Lets, *]
  · intro ρ W ⟨p1, p2, p3⟩ hG hF K hK; (try simp [FactsD] at hF); have ⟨hc, hf, hz⟩ := bcell (Gr.tr (Gr.drew _) hG); go_simp; exact hK _ (gives_val)
  apply chain_leq (D := [(7, some 0), (6, some 1)]) (by kernel_rfl)
  · intro ρ W hF; (try simp [FactsD] at hF); simp [Lets, *]
  · intro ρ W ⟨p1, p2, p3⟩ hG hF K hK; (try simp [FactsD] at hF); have ⟨hc, hf, hz⟩ := bcell (Gr.tr (Gr.drew _) hG); go_simp; exact hK _ (gives_val)
  apply chain_leq (D := [(8, some 0), (6, some 2)]) (by kernel_rfl)
  · intro ρ W hF; (try simp [FactsD] at hF); simp [Lets, *]
  · intro ρ W ⟨p1, p2, p3⟩ hG hF K hK; (try simp [FactsD] at hF); have ⟨hc, hf, hz⟩ := bcell (Gr.tr (Gr.drew _) hG); go_simp; exact hK _ (gives_call (HR.out _ (Gr.tr (Gr.alloc _ _) (Gr.tr (Gr.drew _) hG))))
  apply chain_eq (D := [(6, some 3), (9, some 0)]) rfl (by kernel_rfl)
  · intro ρ W ⟨p1, p2, p3⟩ hG hF K hK; (try simp [FactsD] at hF); have ⟨hc, hf, hz⟩ := bcell (Gr.tr (Gr.drew _) hG); go_simp; exact hK _ (gives_val)
  apply chain_eq (D := [(10, some 0)]) rfl (by kernel_rfl)
  · intro ρ W ⟨p1, p2, p3⟩ hG hF K hK; (try simp [FactsD] at hF); have ⟨hc, hf, hz⟩ := bcell (Gr.tr (Gr.drew _) hG); go_simp; exact hK _ (gives_val)
  apply chain_leq (D := [(1, none), (11, some 0)]) (by kernel_rfl)
  · intro ρ W hF; (try simp [FactsD] at hF); simp [Lets, *]
  · intro ρ W ⟨p1, p2, p3⟩ hG hF K hK; (try simp [FactsD] at hF); have ⟨hc, hf, hz⟩ := bcell (Gr.tr (Gr.drew _) hG); go_simp; exact hK _ (gives_val)
  apply chain_leq (D := [(12, some 0), (11, some 1)]) (by kernel_rfl)
  · intro ρ W hF; (try simp [FactsD] at hF); simp [Lets, *]
  · intro ρ W ⟨p1, p2, p3⟩ hG hF K hK; (try simp [FactsD] at hF); have ⟨hc, hf, hz⟩ := bcell (Gr.tr (Gr.drew _) hG); go_simp; exact hK _ (gives_val)
  apply chain_leq (D := [(11, some 2)]) (by kernel_rfl)
  · intro ρ W hF; (try simp [FactsD] at hF); simp [Lets, *]
  · intro ρ W ⟨p1, p2, p3⟩ hG hF K hK; (try simp [FactsD] at hF); have ⟨hc, hf, hz⟩ := bcell (Gr.tr (Gr.drew _) hG); go_simp; exact hK _ (gives_call (HS.out _))
  apply chain_leq (D := [(13, some 1), (14, some 0), (11, some 3)]) (by kernel_rfl)
  · intro ρ W hF; (try simp [FactsD] at hF); simp [Lets, *]
  · intro ρ W ⟨p1, p2, p3⟩ hG hF K hK; (try simp [FactsD] at hF); have ⟨hc, hf, hz⟩ := bcell (Gr.tr (Gr.drew _) hG); go_simp; exact hK _ (gives_call (HW.out _))
  apply chain_eq (D := [(11, some 4), (15, some 0)]) rfl (by kernel_rfl)
  · intro ρ W ⟨p1, p2, p3⟩ hG hF K hK; (try simp [FactsD] at hF); have ⟨hc, hf, hz⟩ := bcell (Gr.tr (Gr.drew _) hG); go_simp; exact hK _ (gives_val)
  apply chain_eq (D := [(16, some 0)]) rfl (by kernel_rfl)
  · intro ρ W ⟨p1, p2, p3⟩ hG hF K hK; (try simp [FactsD] at hF); have ⟨hc, hf, hz⟩ := bcell (Gr.tr (Gr.drew _) hG); go_simp; exact hK _ (gives_val)
  refine chain_skip (D := [(1, none), (17, some 0)]) (by kernel_rfl) ?_ ?_
  · intro ρ W hF; (try simp [FactsD] at hF); simp [Lets, *]
  refine chain_skip (D := [(18, some 0), (17, some 1)]) (by kernel_rfl) ?_ ?_
  · intro ρ W hF; (try simp [FactsD] at hF); simp [Lets, *]
  refine chain_skip (D := [(19, some 0), (17, some 2)]) (by kernel_rfl) ?_ ?_
  · intro ρ W hF; (try simp [FactsD] at hF); simp [Lets, *]
  apply chain_eq (D := [(17, some 3), (20, some 0)]) rfl (by kernel_rfl)
  · intro ρ W ⟨p1, p2, p3⟩ hG hF K hK; (try simp [FactsD] at hF); have ⟨hc, hf, hz⟩ := bcell (Gr.tr (Gr.drew _) hG); go_simp; exact hK _ (gives_val)
  apply chain_eq (D := [(21, some 0)]) rfl (by kernel_rfl)
  · intro ρ W ⟨p1, p2, p3⟩ hG hF K hK; (try simp [FactsD] at hF); have ⟨hc, hf, hz⟩ := bcell (Gr.tr (Gr.drew _) hG); go_simp; exact hK _ (gives_val)
  refine chain_skip (D := [(1, none), (22, some 0)]) (by kernel_rfl) ?_ ?_
  · intro ρ W hF; (try simp [FactsD] at hF); simp [Lets, *]
  refine chain_skip (D := [(23, some 0), (22, some 1)]) (by kernel_rfl) ?_ ?_
  · intro ρ W hF; (try simp [FactsD] at hF); simp [Lets, *]
  refine chain_skip (D := [(24, some 0), (22, some 2)]) (by kernel_rfl) ?_ ?_
  · intro ρ W hF; (try simp [FactsD] at hF); simp [Lets, *]
  apply chain_eq (D := [(22, some 3), (25, some 0)]) rfl (by kernel_rfl)
  · intro ρ W ⟨p1, p2, p3⟩ hG hF K hK; (try simp [FactsD] at hF); have ⟨hc, hf, hz⟩ := bcell (Gr.tr (Gr.drew _) hG); go_simp; exact hK _ (gives_val)
  apply chain_eq (D := [(26, some 0)]) rfl (by kernel_rfl)
  · intro ρ W ⟨p1, p2, p3⟩ hG hF K hK; (try simp [FactsD] at hF); have ⟨hc, hf, hz⟩ := bcell (Gr.tr (Gr.drew _) hG); go_simp; exact hK _ (gives_val)
  refine chain_done ?_
  intro vs W hG hV
  obtain ⟨e24, -⟩ := hV
  simp only [Nat.reduceSub] at e24
  simp only [lay, Act.put, List.getElem?_toArray, List.getElem?_cons_succ, List.getElem?_cons_zero, Option.bind_some, List.setIfInBounds_toArray, List.set_cons_succ, List.set_cons_zero]
  generalize vs 0 = v0
  generalize vs 1 = v1
  generalize vs 2 = v2
  generalize vs 3 = v3
  generalize vs 4 = v4
  generalize vs 5 = v5
  generalize vs 6 = v6
  generalize vs 7 = v7
  generalize vs 8 = v8
  generalize vs 9 = v9
  generalize vs 10 = v10
  generalize vs 11 = v11
  generalize vs 12 = v12
  generalize vs 13 = v13
  generalize vs 14 = v14
  generalize vs 15 = v15
  generalize vs 16 = v16
  generalize vs 17 = v17
  generalize vs 18 = v18
  generalize vs 19 = v19
  generalize vs 20 = v20
  generalize vs 21 = v21
  generalize vs 22 = v22
  generalize vs 23 = v23
  generalize vs 24 = v24 at *
  subst e24
  obtain ⟨hc, hf, hz⟩ := bcell hG
  have HG := Lib.hid hG
  clear hG
  go_wp2_with fail
  go_ret
  exact ⟨rfl, bgr ((Below.refl _ _).alloc (by first | (simp; done) | (simp; omega) | omega) _) (by first | (simp; done) | (simp; omega) | omega) HG.out⟩
set_option maxRecDepth 100000 in
set_option maxHeartbeats 2000000 in
theorem valid_H (r : Rr) (w : World) (hl : MksAt r.L r.lp w) (hr : MksAt r.R r.rp w) (h1 : okRow r.L = true) (h2 : okRow r.R = true) (h3 : okS r.s r.t (-65536) 65536 = true) (h4 : decide (0 ≤ r.h) = false) :
    Calls Try.prog 90 #[r.val] w fun e w' => e = .returned (.bool false) ∧ Below w.heap.size w w' := by
  have HL := Lib.hid (fun W (hg : Gr w W) => validMarks_any r.L r.lp r.lc W (hl.grow hg))
  have HR := Lib.hid (fun W (hg : Gr w W) => validMarks_any r.R r.rp r.rc W (hr.grow hg))
  have HS := Lib.hid (fun W => span_any (-65536) 65536 W)
  have HW := Lib.hid (fun W => within_any r.s r.t (-65536) 65536 W)
  unfold spV at HS HW
  unfold Rr.val
  simp only [h1, h2, h3] at HL HR HW
  clear hl hr
  go_enter Try.func90, Try.ntmps90
  go_wp2_with fail
  refine region2 25 ?_ ?_ ?_
  · kernel_rfl
  · kernel_rfl
  simp only [List.take_succ_cons, List.take_zero, List.drop_succ_cons, List.drop_zero]
  apply chain_eq (D := [(1, none)]) rfl (by kernel_rfl)
  · intro ρ W ⟨p1, p2, p3⟩ hG hF K hK; (try simp [FactsD] at hF); have ⟨hc, hf, hz⟩ := bcell (Gr.tr (Gr.drew _) hG); go_simp; exact hK _ (gives_val)
  apply chain_eq (D := [(3, some 0)]) rfl (by kernel_rfl)
  · intro ρ W ⟨p1, p2, p3⟩ hG hF K hK; (try simp [FactsD] at hF); have ⟨hc, hf, hz⟩ := bcell (Gr.tr (Gr.drew _) hG); go_simp; exact hK _ (gives_val)
  apply chain_eq (D := [(4, some 0)]) rfl (by kernel_rfl)
  · intro ρ W ⟨p1, p2, p3⟩ hG hF K hK; (try simp [FactsD] at hF); have ⟨hc, hf, hz⟩ := bcell (Gr.tr (Gr.drew _) hG); go_simp; exact hK _ (gives_call (HL.out _ (Gr.tr (Gr.alloc _ _) (Gr.tr (Gr.drew _) hG))))
  apply chain_eq (D := [(5, some 0)]) rfl (by kernel_rfl)
  · intro ρ W ⟨p1, p2, p3⟩ hG hF K hK; (try simp [FactsD] at hF); have ⟨hc, hf, hz⟩ := bcell (Gr.tr (Gr.drew _) hG); go_simp; exact hK _ (gives_val)
  apply chain_leq (D := [(1, none), (6, some 0)]) (by kernel_rfl)
  · intro ρ W hF; (try simp [FactsD] at hF); simp [Lets, *]
  · intro ρ W ⟨p1, p2, p3⟩ hG hF K hK; (try simp [FactsD] at hF); have ⟨hc, hf, hz⟩ := bcell (Gr.tr (Gr.drew _) hG); go_simp; exact hK _ (gives_val)
  apply chain_leq (D := [(7, some 0), (6, some 1)]) (by kernel_rfl)
  · intro ρ W hF; (try simp [FactsD] at hF); simp [Lets, *]
  · intro ρ W ⟨p1, p2, p3⟩ hG hF K hK; (try simp [FactsD] at hF); have ⟨hc, hf, hz⟩ := bcell (Gr.tr (Gr.drew _) hG); go_simp; exact hK _ (gives_val)
  apply chain_leq (D := [(8, some 0), (6, some 2)]) (by kernel_rfl)
  · intro ρ W hF; (try simp [FactsD] at hF); simp [Lets, *]
  · intro ρ W ⟨p1, p2, p3⟩ hG hF K hK; (try simp [FactsD] at hF); have ⟨hc, hf, hz⟩ := bcell (Gr.tr (Gr.drew _) hG); go_simp; exact hK _ (gives_call (HR.out _ (Gr.tr (Gr.alloc _ _) (Gr.tr (Gr.drew _) hG))))
  apply chain_eq (D := [(6, some 3), (9, some 0)]) rfl (by kernel_rfl)
  · intro ρ W ⟨p1, p2, p3⟩ hG hF K hK; (try simp [FactsD] at hF); have ⟨hc, hf, hz⟩ := bcell (Gr.tr (Gr.drew _) hG); go_simp; exact hK _ (gives_val)
  apply chain_eq (D := [(10, some 0)]) rfl (by kernel_rfl)
  · intro ρ W ⟨p1, p2, p3⟩ hG hF K hK; (try simp [FactsD] at hF); have ⟨hc, hf, hz⟩ := bcell (Gr.tr (Gr.drew _) hG); go_simp; exact hK _ (gives_val)
  apply chain_leq (D := [(1, none), (11, some 0)]) (by kernel_rfl)
  · intro ρ W hF; (try simp [FactsD] at hF); simp [Lets, *]
  · intro ρ W ⟨p1, p2, p3⟩ hG hF K hK; (try simp [FactsD] at hF); have ⟨hc, hf, hz⟩ := bcell (Gr.tr (Gr.drew _) hG); go_simp; exact hK _ (gives_val)
  apply chain_leq (D := [(12, some 0), (11, some 1)]) (by kernel_rfl)
  · intro ρ W hF; (try simp [FactsD] at hF); simp [Lets, *]
  · intro ρ W ⟨p1, p2, p3⟩ hG hF K hK; (try simp [FactsD] at hF); have ⟨hc, hf, hz⟩ := bcell (Gr.tr (Gr.drew _) hG); go_simp; exact hK _ (gives_val)
  apply chain_leq (D := [(11, some 2)]) (by kernel_rfl)
  · intro ρ W hF; (try simp [FactsD] at hF); simp [Lets, *]
  · intro ρ W ⟨p1, p2, p3⟩ hG hF K hK; (try simp [FactsD] at hF); have ⟨hc, hf, hz⟩ := bcell (Gr.tr (Gr.drew _) hG); go_simp; exact hK _ (gives_call (HS.out _))
  apply chain_leq (D := [(13, some 1), (14, some 0), (11, some 3)]) (by kernel_rfl)
  · intro ρ W hF; (try simp [FactsD] at hF); simp [Lets, *]
  · intro ρ W ⟨p1, p2, p3⟩ hG hF K hK; (try simp [FactsD] at hF); have ⟨hc, hf, hz⟩ := bcell (Gr.tr (Gr.drew _) hG); go_simp; exact hK _ (gives_call (HW.out _))
  apply chain_eq (D := [(11, some 4), (15, some 0)]) rfl (by kernel_rfl)
  · intro ρ W ⟨p1, p2, p3⟩ hG hF K hK; (try simp [FactsD] at hF); have ⟨hc, hf, hz⟩ := bcell (Gr.tr (Gr.drew _) hG); go_simp; exact hK _ (gives_val)
  apply chain_eq (D := [(16, some 0)]) rfl (by kernel_rfl)
  · intro ρ W ⟨p1, p2, p3⟩ hG hF K hK; (try simp [FactsD] at hF); have ⟨hc, hf, hz⟩ := bcell (Gr.tr (Gr.drew _) hG); go_simp; exact hK _ (gives_val)
  apply chain_leq (D := [(1, none), (17, some 0)]) (by kernel_rfl)
  · intro ρ W hF; (try simp [FactsD] at hF); simp [Lets, *]
  · intro ρ W ⟨p1, p2, p3⟩ hG hF K hK; (try simp [FactsD] at hF); have ⟨hc, hf, hz⟩ := bcell (Gr.tr (Gr.drew _) hG); go_simp; exact hK _ (gives_val)
  apply chain_leq (D := [(18, some 0), (17, some 1)]) (by kernel_rfl)
  · intro ρ W hF; (try simp [FactsD] at hF); simp [Lets, *]
  · intro ρ W ⟨p1, p2, p3⟩ hG hF K hK; (try simp [FactsD] at hF); have ⟨hc, hf, hz⟩ := bcell (Gr.tr (Gr.drew _) hG); go_simp; exact hK _ (gives_val)
  apply chain_leq (D := [(19, some 0), (17, some 2)]) (by kernel_rfl)
  · intro ρ W hF; (try simp [FactsD] at hF); simp [Lets, *]
  · intro ρ W ⟨p1, p2, p3⟩ hG hF K hK; (try simp [FactsD] at hF); have ⟨hc, hf, hz⟩ := bcell (Gr.tr (Gr.drew _) hG); go_simp; exact hK _ (gives_val)
  apply chain_eq (D := [(17, some 3), (20, some 0)]) rfl (by kernel_rfl)
  · intro ρ W ⟨p1, p2, p3⟩ hG hF K hK; (try simp [FactsD] at hF); have ⟨hc, hf, hz⟩ := bcell (Gr.tr (Gr.drew _) hG); go_simp; exact hK _ (gives_val)
  apply chain_eq (D := [(21, some 0)]) rfl (by kernel_rfl)
  · intro ρ W ⟨p1, p2, p3⟩ hG hF K hK; (try simp [FactsD] at hF); have ⟨hc, hf, hz⟩ := bcell (Gr.tr (Gr.drew _) hG); go_simp; exact hK _ (gives_val)
  refine chain_skip (D := [(1, none), (22, some 0)]) (by kernel_rfl) ?_ ?_
  · intro ρ W hF; (try simp [FactsD] at hF); simp [Lets, *]
  refine chain_skip (D := [(23, some 0), (22, some 1)]) (by kernel_rfl) ?_ ?_
  · intro ρ W hF; (try simp [FactsD] at hF); simp [Lets, *]
  refine chain_skip (D := [(24, some 0), (22, some 2)]) (by kernel_rfl) ?_ ?_
  · intro ρ W hF; (try simp [FactsD] at hF); simp [Lets, *]
  apply chain_eq (D := [(22, some 3), (25, some 0)]) rfl (by kernel_rfl)
  · intro ρ W ⟨p1, p2, p3⟩ hG hF K hK; (try simp [FactsD] at hF); have ⟨hc, hf, hz⟩ := bcell (Gr.tr (Gr.drew _) hG); go_simp; exact hK _ (gives_val)
  apply chain_eq (D := [(26, some 0)]) rfl (by kernel_rfl)
  · intro ρ W ⟨p1, p2, p3⟩ hG hF K hK; (try simp [FactsD] at hF); have ⟨hc, hf, hz⟩ := bcell (Gr.tr (Gr.drew _) hG); go_simp; exact hK _ (gives_val)
  refine chain_done ?_
  intro vs W hG hV
  obtain ⟨e24, -⟩ := hV
  simp only [Nat.reduceSub] at e24
  simp only [lay, Act.put, List.getElem?_toArray, List.getElem?_cons_succ, List.getElem?_cons_zero, Option.bind_some, List.setIfInBounds_toArray, List.set_cons_succ, List.set_cons_zero]
  generalize vs 0 = v0
  generalize vs 1 = v1
  generalize vs 2 = v2
  generalize vs 3 = v3
  generalize vs 4 = v4
  generalize vs 5 = v5
  generalize vs 6 = v6
  generalize vs 7 = v7
  generalize vs 8 = v8
  generalize vs 9 = v9
  generalize vs 10 = v10
  generalize vs 11 = v11
  generalize vs 12 = v12
  generalize vs 13 = v13
  generalize vs 14 = v14
  generalize vs 15 = v15
  generalize vs 16 = v16
  generalize vs 17 = v17
  generalize vs 18 = v18
  generalize vs 19 = v19
  generalize vs 20 = v20
  generalize vs 21 = v21
  generalize vs 22 = v22
  generalize vs 23 = v23
  generalize vs 24 = v24 at *
  subst e24
  obtain ⟨hc, hf, hz⟩ := bcell hG
  have HG := Lib.hid hG
  clear hG
  go_wp2_with fail
  go_ret
  exact ⟨rfl, bgr ((Below.refl _ _).alloc (by first | (simp; done) | (simp; omega) | omega) _) (by first | (simp; done) | (simp; omega) | omega) HG.out⟩
set_option maxRecDepth 100000 in
set_option maxHeartbeats 2000000 in
theorem valid_Y (r : Rr) (w : World) (hl : MksAt r.L r.lp w) (hr : MksAt r.R r.rp w) (h1 : okRow r.L = true) (h2 : okRow r.R = true) (h3 : okS r.s r.t (-65536) 65536 = true) (h4 : decide (0 ≤ r.h) = true) :
    Calls Try.prog 90 #[r.val] w fun e w' => e = .returned (.bool (decide (r.h ≤ 20))) ∧ Below w.heap.size w w' := by
  have HL := Lib.hid (fun W (hg : Gr w W) => validMarks_any r.L r.lp r.lc W (hl.grow hg))
  have HR := Lib.hid (fun W (hg : Gr w W) => validMarks_any r.R r.rp r.rc W (hr.grow hg))
  have HS := Lib.hid (fun W => span_any (-65536) 65536 W)
  have HW := Lib.hid (fun W => within_any r.s r.t (-65536) 65536 W)
  unfold spV at HS HW
  unfold Rr.val
  simp only [h1, h2, h3] at HL HR HW
  clear hl hr
  go_enter Try.func90, Try.ntmps90
  go_wp2_with fail
  refine region2 25 ?_ ?_ ?_
  · kernel_rfl
  · kernel_rfl
  simp only [List.take_succ_cons, List.take_zero, List.drop_succ_cons, List.drop_zero]
  apply chain_eq (D := [(1, none)]) rfl (by kernel_rfl)
  · intro ρ W ⟨p1, p2, p3⟩ hG hF K hK; (try simp [FactsD] at hF); have ⟨hc, hf, hz⟩ := bcell (Gr.tr (Gr.drew _) hG); go_simp; exact hK _ (gives_val)
  apply chain_eq (D := [(3, some 0)]) rfl (by kernel_rfl)
  · intro ρ W ⟨p1, p2, p3⟩ hG hF K hK; (try simp [FactsD] at hF); have ⟨hc, hf, hz⟩ := bcell (Gr.tr (Gr.drew _) hG); go_simp; exact hK _ (gives_val)
  apply chain_eq (D := [(4, some 0)]) rfl (by kernel_rfl)
  · intro ρ W ⟨p1, p2, p3⟩ hG hF K hK; (try simp [FactsD] at hF); have ⟨hc, hf, hz⟩ := bcell (Gr.tr (Gr.drew _) hG); go_simp; exact hK _ (gives_call (HL.out _ (Gr.tr (Gr.alloc _ _) (Gr.tr (Gr.drew _) hG))))
  apply chain_eq (D := [(5, some 0)]) rfl (by kernel_rfl)
  · intro ρ W ⟨p1, p2, p3⟩ hG hF K hK; (try simp [FactsD] at hF); have ⟨hc, hf, hz⟩ := bcell (Gr.tr (Gr.drew _) hG); go_simp; exact hK _ (gives_val)
  apply chain_leq (D := [(1, none), (6, some 0)]) (by kernel_rfl)
  · intro ρ W hF; (try simp [FactsD] at hF); simp [Lets, *]
  · intro ρ W ⟨p1, p2, p3⟩ hG hF K hK; (try simp [FactsD] at hF); have ⟨hc, hf, hz⟩ := bcell (Gr.tr (Gr.drew _) hG); go_simp; exact hK _ (gives_val)
  apply chain_leq (D := [(7, some 0), (6, some 1)]) (by kernel_rfl)
  · intro ρ W hF; (try simp [FactsD] at hF); simp [Lets, *]
  · intro ρ W ⟨p1, p2, p3⟩ hG hF K hK; (try simp [FactsD] at hF); have ⟨hc, hf, hz⟩ := bcell (Gr.tr (Gr.drew _) hG); go_simp; exact hK _ (gives_val)
  apply chain_leq (D := [(8, some 0), (6, some 2)]) (by kernel_rfl)
  · intro ρ W hF; (try simp [FactsD] at hF); simp [Lets, *]
  · intro ρ W ⟨p1, p2, p3⟩ hG hF K hK; (try simp [FactsD] at hF); have ⟨hc, hf, hz⟩ := bcell (Gr.tr (Gr.drew _) hG); go_simp; exact hK _ (gives_call (HR.out _ (Gr.tr (Gr.alloc _ _) (Gr.tr (Gr.drew _) hG))))
  apply chain_eq (D := [(6, some 3), (9, some 0)]) rfl (by kernel_rfl)
  · intro ρ W ⟨p1, p2, p3⟩ hG hF K hK; (try simp [FactsD] at hF); have ⟨hc, hf, hz⟩ := bcell (Gr.tr (Gr.drew _) hG); go_simp; exact hK _ (gives_val)
  apply chain_eq (D := [(10, some 0)]) rfl (by kernel_rfl)
  · intro ρ W ⟨p1, p2, p3⟩ hG hF K hK; (try simp [FactsD] at hF); have ⟨hc, hf, hz⟩ := bcell (Gr.tr (Gr.drew _) hG); go_simp; exact hK _ (gives_val)
  apply chain_leq (D := [(1, none), (11, some 0)]) (by kernel_rfl)
  · intro ρ W hF; (try simp [FactsD] at hF); simp [Lets, *]
  · intro ρ W ⟨p1, p2, p3⟩ hG hF K hK; (try simp [FactsD] at hF); have ⟨hc, hf, hz⟩ := bcell (Gr.tr (Gr.drew _) hG); go_simp; exact hK _ (gives_val)
  apply chain_leq (D := [(12, some 0), (11, some 1)]) (by kernel_rfl)
  · intro ρ W hF; (try simp [FactsD] at hF); simp [Lets, *]
  · intro ρ W ⟨p1, p2, p3⟩ hG hF K hK; (try simp [FactsD] at hF); have ⟨hc, hf, hz⟩ := bcell (Gr.tr (Gr.drew _) hG); go_simp; exact hK _ (gives_val)
  apply chain_leq (D := [(11, some 2)]) (by kernel_rfl)
  · intro ρ W hF; (try simp [FactsD] at hF); simp [Lets, *]
  · intro ρ W ⟨p1, p2, p3⟩ hG hF K hK; (try simp [FactsD] at hF); have ⟨hc, hf, hz⟩ := bcell (Gr.tr (Gr.drew _) hG); go_simp; exact hK _ (gives_call (HS.out _))
  apply chain_leq (D := [(13, some 1), (14, some 0), (11, some 3)]) (by kernel_rfl)
  · intro ρ W hF; (try simp [FactsD] at hF); simp [Lets, *]
  · intro ρ W ⟨p1, p2, p3⟩ hG hF K hK; (try simp [FactsD] at hF); have ⟨hc, hf, hz⟩ := bcell (Gr.tr (Gr.drew _) hG); go_simp; exact hK _ (gives_call (HW.out _))
  apply chain_eq (D := [(11, some 4), (15, some 0)]) rfl (by kernel_rfl)
  · intro ρ W ⟨p1, p2, p3⟩ hG hF K hK; (try simp [FactsD] at hF); have ⟨hc, hf, hz⟩ := bcell (Gr.tr (Gr.drew _) hG); go_simp; exact hK _ (gives_val)
  apply chain_eq (D := [(16, some 0)]) rfl (by kernel_rfl)
  · intro ρ W ⟨p1, p2, p3⟩ hG hF K hK; (try simp [FactsD] at hF); have ⟨hc, hf, hz⟩ := bcell (Gr.tr (Gr.drew _) hG); go_simp; exact hK _ (gives_val)
  apply chain_leq (D := [(1, none), (17, some 0)]) (by kernel_rfl)
  · intro ρ W hF; (try simp [FactsD] at hF); simp [Lets, *]
  · intro ρ W ⟨p1, p2, p3⟩ hG hF K hK; (try simp [FactsD] at hF); have ⟨hc, hf, hz⟩ := bcell (Gr.tr (Gr.drew _) hG); go_simp; exact hK _ (gives_val)
  apply chain_leq (D := [(18, some 0), (17, some 1)]) (by kernel_rfl)
  · intro ρ W hF; (try simp [FactsD] at hF); simp [Lets, *]
  · intro ρ W ⟨p1, p2, p3⟩ hG hF K hK; (try simp [FactsD] at hF); have ⟨hc, hf, hz⟩ := bcell (Gr.tr (Gr.drew _) hG); go_simp; exact hK _ (gives_val)
  apply chain_leq (D := [(19, some 0), (17, some 2)]) (by kernel_rfl)
  · intro ρ W hF; (try simp [FactsD] at hF); simp [Lets, *]
  · intro ρ W ⟨p1, p2, p3⟩ hG hF K hK; (try simp [FactsD] at hF); have ⟨hc, hf, hz⟩ := bcell (Gr.tr (Gr.drew _) hG); go_simp; exact hK _ (gives_val)
  apply chain_eq (D := [(17, some 3), (20, some 0)]) rfl (by kernel_rfl)
  · intro ρ W ⟨p1, p2, p3⟩ hG hF K hK; (try simp [FactsD] at hF); have ⟨hc, hf, hz⟩ := bcell (Gr.tr (Gr.drew _) hG); go_simp; exact hK _ (gives_val)
  apply chain_eq (D := [(21, some 0)]) rfl (by kernel_rfl)
  · intro ρ W ⟨p1, p2, p3⟩ hG hF K hK; (try simp [FactsD] at hF); have ⟨hc, hf, hz⟩ := bcell (Gr.tr (Gr.drew _) hG); go_simp; exact hK _ (gives_val)
  apply chain_leq (D := [(1, none), (22, some 0)]) (by kernel_rfl)
  · intro ρ W hF; (try simp [FactsD] at hF); simp [Lets, *]
  · intro ρ W ⟨p1, p2, p3⟩ hG hF K hK; (try simp [FactsD] at hF); have ⟨hc, hf, hz⟩ := bcell (Gr.tr (Gr.drew _) hG); go_simp; exact hK _ (gives_val)
  apply chain_leq (D := [(23, some 0), (22, some 1)]) (by kernel_rfl)
  · intro ρ W hF; (try simp [FactsD] at hF); simp [Lets, *]
  · intro ρ W ⟨p1, p2, p3⟩ hG hF K hK; (try simp [FactsD] at hF); have ⟨hc, hf, hz⟩ := bcell (Gr.tr (Gr.drew _) hG); go_simp; exact hK _ (gives_val)
  apply chain_leq (D := [(24, some 0), (22, some 2)]) (by kernel_rfl)
  · intro ρ W hF; (try simp [FactsD] at hF); simp [Lets, *]
  · intro ρ W ⟨p1, p2, p3⟩ hG hF K hK; (try simp [FactsD] at hF); have ⟨hc, hf, hz⟩ := bcell (Gr.tr (Gr.drew _) hG); go_simp; exact hK _ (gives_val)
  apply chain_eq (D := [(22, some 3), (25, some 0)]) rfl (by kernel_rfl)
  · intro ρ W ⟨p1, p2, p3⟩ hG hF K hK; (try simp [FactsD] at hF); have ⟨hc, hf, hz⟩ := bcell (Gr.tr (Gr.drew _) hG); go_simp; exact hK _ (gives_val)
  apply chain_eq (D := [(26, some 0)]) rfl (by kernel_rfl)
  · intro ρ W ⟨p1, p2, p3⟩ hG hF K hK; (try simp [FactsD] at hF); have ⟨hc, hf, hz⟩ := bcell (Gr.tr (Gr.drew _) hG); go_simp; exact hK _ (gives_val)
  refine chain_done ?_
  intro vs W hG hV
  obtain ⟨e24, -⟩ := hV
  simp only [Nat.reduceSub] at e24
  simp only [lay, Act.put, List.getElem?_toArray, List.getElem?_cons_succ, List.getElem?_cons_zero, Option.bind_some, List.setIfInBounds_toArray, List.set_cons_succ, List.set_cons_zero]
  generalize vs 0 = v0
  generalize vs 1 = v1
  generalize vs 2 = v2
  generalize vs 3 = v3
  generalize vs 4 = v4
  generalize vs 5 = v5
  generalize vs 6 = v6
  generalize vs 7 = v7
  generalize vs 8 = v8
  generalize vs 9 = v9
  generalize vs 10 = v10
  generalize vs 11 = v11
  generalize vs 12 = v12
  generalize vs 13 = v13
  generalize vs 14 = v14
  generalize vs 15 = v15
  generalize vs 16 = v16
  generalize vs 17 = v17
  generalize vs 18 = v18
  generalize vs 19 = v19
  generalize vs 20 = v20
  generalize vs 21 = v21
  generalize vs 22 = v22
  generalize vs 23 = v23
  generalize vs 24 = v24 at *
  subst e24
  obtain ⟨hc, hf, hz⟩ := bcell hG
  have HG := Lib.hid hG
  clear hG
  go_wp2_with fail
  go_ret
  exact ⟨rfl, bgr ((Below.refl _ _).alloc (by first | (simp; done) | (simp; omega) | omega) _) (by first | (simp; done) | (simp; omega) | omega) HG.out⟩

theorem valid_any (r : Rr) (w : World) (hl : MksAt r.L r.lp w) (hr : MksAt r.R r.rp w) :
    Calls Try.prog 90 #[r.val] w fun e w' => e = .returned (.bool r.ok) ∧ Below w.heap.size w w' := by
  unfold Rr.ok
  cases h1 : okRow r.L with
  | false => exact valid_L r w hl hr h1
  | true =>
    cases h2 : okRow r.R with
    | false => exact valid_R r w hl hr h1 h2
    | true =>
      cases h3 : okS r.s r.t (-65536) 65536 with
      | false => exact valid_S r w hl hr h1 h2 h3
      | true =>
        cases h4 : decide (0 ≤ r.h) with
        | false => exact valid_H r w hl hr h1 h2 h3 h4
        | true =>
          refine (valid_Y r w hl hr h1 h2 h3 h4).mono ?_
          rintro e w' ⟨rfl, hb⟩
          exact ⟨by simp, hb⟩

end Go.Proofs.Ytjlaoiimbhlafaa
