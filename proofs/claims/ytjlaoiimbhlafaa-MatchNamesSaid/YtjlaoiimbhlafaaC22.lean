import Derived.Test.YtjlaoiimbhlafaaC21
set_option linter.unusedVariables false
set_option linter.unusedSimpArgs false
namespace Go.Proofs.Ytjlaoiimbhlafaa
open Go.RowKit Go.Shelf

open MW
/-- The marks of a row, as they lie. -/
def MksAt (l : List Mrk) (p : Option Addr) (w : World) : Prop :=
  l.length ≤ 1000 ∧ ∀ i m, l[i]? = some m → ∃ b o, p = some ⟨b, o, none⟩ ∧ b < w.heap.size ∧ w.cell? ⟨b, o + i * 4, none⟩ = some (.int .i64 m.a) ∧ w.cell? ⟨b, o + i * 4 + 1, none⟩ = some (.int .i64 m.b) ∧ w.cell? ⟨b, o + i * 4 + 2, none⟩ = some (.int .i64 m.c) ∧ w.cell? ⟨b, o + i * 4 + 3, none⟩ = some (.int .i64 m.d)
theorem MksAt.grow {l : List Mrk} {p : Option Addr} {w w' : World} (h : MksAt l p w) (hg : Gr w w') : MksAt l p w' :=
  ⟨h.1, fun i m hm => by
    obtain ⟨b, o, h1, h2, h3, h4, h5, h6⟩ := h.2 i m hm
    exact ⟨b, o, h1, (bcell hg).2.2 _ h2, by rw [(bcell hg).1 _ _ h2]; exact h3, by rw [(bcell hg).1 _ _ h2]; exact h4, by rw [(bcell hg).1 _ _ h2]; exact h5, by rw [(bcell hg).1 _ _ h2]; exact h6⟩⟩
def okRow (l : List Mrk) : Bool := decide (l.length ≤ 10) && l.all Mrk.ok
theorem okRow_no {l : List Mrk} (h : decide (l.length ≤ 10) = true) {n : Nat} {m : Mrk} (hm : l[n]? = some m) (hn : m.ok = false) : okRow l = false := by
  unfold okRow
  rw [h, Bool.true_and, List.all_eq_false]
  exact ⟨m, List.mem_of_getElem? hm, by rw [hn]; simp⟩
theorem okRow_yes {l : List Mrk} (h : decide (l.length ≤ 10) = true) (ha : ∀ (j : Nat) (m : Mrk), l[j]? = some m → m.ok = true) : okRow l = true := by
  unfold okRow
  rw [h, Bool.true_and, List.all_eq_true]
  intro m hm
  obtain ⟨j, hj⟩ := List.mem_iff_getElem?.1 hm
  exact ha j m hj

set_option maxHeartbeats 2000000 in
theorem validMarks_any (l : List Mrk) (p : Option Addr) (cap : Nat) (w : World) (hl : MksAt l p w) :
    Calls Try.prog 117 #[.slice p l.length cap] w fun e w' => e = .returned (.bool (okRow l)) ∧ Below w.heap.size w w' := by
  have HL := Lib.hid hl
  have hlen := hl.1
  clear hl
  cases h10 : decide (l.length ≤ 10) with
  | false =>
    have h1 : decide ((10 : Int) < l.length) = true := by simp at h10; simp; omega
    have h2 : decide (10 < l.length) = true := by simp at h10; simp; omega
    have h3 : okRow l = false := by unfold okRow; rw [h10]; rfl
    rw [h3]
    clear h3 h10
    go_enter Try.func117, Try.ntmps117
    go_wp2
    go_ret
    exact ⟨rfl, Below.refl _ _⟩
  | true =>
    have h1 : decide ((10 : Int) < l.length) = false := by simp at h10; simp; omega
    have h2 : decide (10 < l.length) = false := by simp at h10; simp; omega
    have H10 := Lib.hid h10
    clear h10
    go_enter Try.func117, Try.ntmps117
    go_wp2
    go_loopw [10] (fun t wr => ∃ n : Nat, n ≤ l.length ∧ t = .int .i64 n ∧ Hid (Gr w wr) ∧ Hid (∀ j m, j < n → l[j]? = some m → m.ok = true)) (fun t _ => (1000 - intOf t).toNat)
    case atStart => exact ⟨0, Nat.zero_le _, rfl, Lib.hid (Gr.same _), Lib.hid fun j m hj => absurd hj (by omega)⟩
    case round =>
      obtain ⟨n, hn, rfl, HG, HN⟩ := hrel
      by_cases hlt : n < l.length
      · have hd : decide ((n : Int) < l.length) = true := by simp; omega
        have hd' : decide (n < l.length) = true := by simp; omega
        obtain ⟨m, hm⟩ : ∃ m, l[n]? = some m := ⟨l[n], List.getElem?_eq_getElem hlt⟩
        obtain ⟨b, o, rfl, hb, z0, z1, z2, z3⟩ := (HL.out.grow HG.out).2 n m hm
        have HM := Lib.hid hm
        have HS1 := Lib.hid (fun W => span_any 0 65536 W)
        have HS2 := Lib.hid (fun W => span_any 0 1000 W)
        have HW1 := Lib.hid (fun W => within_any m.a m.b 0 65536 W)
        have HW2 := Lib.hid (fun W => within_any m.c m.d 0 1000 W)
        have HOK := Lib.hid (show m.ok = (okS m.a m.b 0 65536 && okS m.c m.d 0 1000) from rfl)
        unfold spV at HS1 HS2 HW1 HW2
        clear hm
        have HF := Lib.hid (Box.fresh wr [.int .i64 m.a, .int .i64 m.b, .int .i64 m.c, .int .i64 m.d] 65)
        cases ha : okS m.a m.b 0 65536 with
        | false =>
          rw [ha] at HW1
          have hno : m.ok = false := by have h9 := HOK.out; simp_all
          have HR := Lib.hid (okRow_no H10.out HM.out hno)
          clear ha hno
          go_wp2_with fail
          have HGQ := Lib.hid (show Gr w (wr.alloc (Obj.cells #[.int .i64 m.a, .int .i64 m.b, .int .i64 m.c, .int .i64 m.d] 65)) from HG.out.tr (Gr.alloc _ _))
          generalize wr.alloc (Obj.cells #[.int .i64 m.a, .int .i64 m.b, .int .i64 m.c, .int .i64 m.d] 65) = wq at *
          clear z0 z1 z2 z3
          obtain ⟨z0, z1, z2, z3⟩ := cells4 HF.out
          have zl := HF.out.lt
          refine region2 12 ?_ ?_ ?_
          · kernel_rfl
          · kernel_rfl
          simp only [List.take_succ_cons, List.take_zero, List.drop_succ_cons, List.drop_zero]
          apply chain_eq (D := [(4, none)]) rfl (by kernel_rfl)
          · intro ρ W ⟨p1, p2, p3⟩ hG hF K hK; (try simp [FactsD] at hF); have ⟨hc, hf, hz⟩ := bcell (Gr.tr (Gr.drew _) hG); go_simp; exact hK _ (gives_val)
          apply chain_eq (D := [(14, some 0)]) rfl (by kernel_rfl)
          · intro ρ W ⟨p1, p2, p3⟩ hG hF K hK; (try simp [FactsD] at hF); have ⟨hc, hf, hz⟩ := bcell (Gr.tr (Gr.drew _) hG); go_simp; exact hK _ (gives_val)
          apply chain_eq (D := []) rfl (by kernel_rfl)
          · intro ρ W ⟨p1, p2, p3⟩ hG hF K hK; (try simp [FactsD] at hF); have ⟨hc, hf, hz⟩ := bcell (Gr.tr (Gr.drew _) hG); go_simp; exact hK _ (gives_call (HS1.out _))
          apply chain_eq (D := [(15, some 1), (16, some 0)]) rfl (by kernel_rfl)
          · intro ρ W ⟨p1, p2, p3⟩ hG hF K hK; (try simp [FactsD] at hF); have ⟨hc, hf, hz⟩ := bcell (Gr.tr (Gr.drew _) hG); go_simp; exact hK _ (gives_call (HW1.out _))
          apply chain_eq (D := [(17, some 0)]) rfl (by kernel_rfl)
          · intro ρ W ⟨p1, p2, p3⟩ hG hF K hK; (try simp [FactsD] at hF); have ⟨hc, hf, hz⟩ := bcell (Gr.tr (Gr.drew _) hG); go_simp; exact hK _ (gives_val)
          apply chain_eq (D := [(18, some 0)]) rfl (by kernel_rfl)
          · intro ρ W ⟨p1, p2, p3⟩ hG hF K hK; (try simp [FactsD] at hF); have ⟨hc, hf, hz⟩ := bcell (Gr.tr (Gr.drew _) hG); go_simp; exact hK _ (gives_val)
          refine chain_skip (D := [(4, none), (19, some 0)]) (by kernel_rfl) ?_ ?_
          · intro ρ W hF; (try simp [FactsD] at hF); simp [Lets, *]
          refine chain_skip (D := [(20, some 0), (19, some 1)]) (by kernel_rfl) ?_ ?_
          · intro ρ W hF; (try simp [FactsD] at hF); simp [Lets, *]
          refine chain_skip (D := [(19, some 2)]) (by kernel_rfl) ?_ ?_
          · intro ρ W hF; (try simp [FactsD] at hF); simp [Lets, *]
          refine chain_skip (D := [(21, some 1), (22, some 0), (19, some 3)]) (by kernel_rfl) ?_ ?_
          · intro ρ W hF; (try simp [FactsD] at hF); simp [Lets, *]
          refine chain_skip (D := [(23, some 0), (19, some 4)]) (by kernel_rfl) ?_ ?_
          · intro ρ W hF; (try simp [FactsD] at hF); simp [Lets, *]
          apply chain_eq (D := [(19, some 5), (24, some 0)]) rfl (by kernel_rfl)
          · intro ρ W ⟨p1, p2, p3⟩ hG hF K hK; (try simp [FactsD] at hF); have ⟨hc, hf, hz⟩ := bcell (Gr.tr (Gr.drew _) hG); go_simp; exact hK _ (gives_val)
          refine chain_done ?_
          intro vs W hG hV
          obtain ⟨e11, -⟩ := hV
          simp only [Nat.reduceSub] at e11
          simp only [lay, Act.put, List.getElem?_toArray, List.getElem?_cons_succ, List.getElem?_cons_zero, Option.bind_some, List.setIfInBounds_toArray, List.set_cons_succ, List.set_cons_zero]
          generalize vs 0 = v0
          generalize vs 1 = v1
          generalize vs 2 = v2
          generalize vs 3 = v3
          generalize vs 4 = v4
          generalize vs 5 = v5
          generalize vs 6 = v6
          generalize vs 7 = v7
          generalize vs 8 = v8
          generalize vs 9 = v9
          generalize vs 10 = v10
          generalize vs 11 = v11 at *
          subst e11
          obtain ⟨hc, hf, hz⟩ := bcell hG
          have HGW := Lib.hid (HGQ.out.tr hG)
          clear hG
          go_wp2_with fail
          go_ret
          exact ⟨by rw [HR.out]; rfl, HGW.out⟩
        | true =>
          rw [ha] at HW1
          cases hb' : okS m.c m.d 0 1000 with
          | false =>
            rw [hb'] at HW2
            have hno : m.ok = false := by have h9 := HOK.out; simp_all
            have HR := Lib.hid (okRow_no H10.out HM.out hno)
            clear ha hno hb'
            go_wp2_with fail
            have HGQ := Lib.hid (show Gr w (wr.alloc (Obj.cells #[.int .i64 m.a, .int .i64 m.b, .int .i64 m.c, .int .i64 m.d] 65)) from HG.out.tr (Gr.alloc _ _))
            generalize wr.alloc (Obj.cells #[.int .i64 m.a, .int .i64 m.b, .int .i64 m.c, .int .i64 m.d] 65) = wq at *
            clear z0 z1 z2 z3
            obtain ⟨z0, z1, z2, z3⟩ := cells4 HF.out
            have zl := HF.out.lt
            refine region2 12 ?_ ?_ ?_
            · kernel_rfl
            · kernel_rfl
            simp only [List.take_succ_cons, List.take_zero, List.drop_succ_cons, List.drop_zero]
            apply chain_eq (D := [(4, none)]) rfl (by kernel_rfl)
            · intro ρ W ⟨p1, p2, p3⟩ hG hF K hK; (try simp [FactsD] at hF); have ⟨hc, hf, hz⟩ := bcell (Gr.tr (Gr.drew _) hG); go_simp; exact hK _ (gives_val)
            apply chain_eq (D := [(14, some 0)]) rfl (by kernel_rfl)
            · intro ρ W ⟨p1, p2, p3⟩ hG hF K hK; (try simp [FactsD] at hF); have ⟨hc, hf, hz⟩ := bcell (Gr.tr (Gr.drew _) hG); go_simp; exact hK _ (gives_val)
            apply chain_eq (D := []) rfl (by kernel_rfl)
            · intro ρ W ⟨p1, p2, p3⟩ hG hF K hK; (try simp [FactsD] at hF); have ⟨hc, hf, hz⟩ := bcell (Gr.tr (Gr.drew _) hG); go_simp; exact hK _ (gives_call (HS1.out _))
            apply chain_eq (D := [(15, some 1), (16, some 0)]) rfl (by kernel_rfl)
            · intro ρ W ⟨p1, p2, p3⟩ hG hF K hK; (try simp [FactsD] at hF); have ⟨hc, hf, hz⟩ := bcell (Gr.tr (Gr.drew _) hG); go_simp; exact hK _ (gives_call (HW1.out _))
            apply chain_eq (D := [(17, some 0)]) rfl (by kernel_rfl)
            · intro ρ W ⟨p1, p2, p3⟩ hG hF K hK; (try simp [FactsD] at hF); have ⟨hc, hf, hz⟩ := bcell (Gr.tr (Gr.drew _) hG); go_simp; exact hK _ (gives_val)
            apply chain_eq (D := [(18, some 0)]) rfl (by kernel_rfl)
            · intro ρ W ⟨p1, p2, p3⟩ hG hF K hK; (try simp [FactsD] at hF); have ⟨hc, hf, hz⟩ := bcell (Gr.tr (Gr.drew _) hG); go_simp; exact hK _ (gives_val)
            apply chain_leq (D := [(4, none), (19, some 0)]) (by kernel_rfl)
            · intro ρ W hF; (try simp [FactsD] at hF); simp [Lets, *]
            · intro ρ W ⟨p1, p2, p3⟩ hG hF K hK; (try simp [FactsD] at hF); have ⟨hc, hf, hz⟩ := bcell (Gr.tr (Gr.drew _) hG); go_simp; exact hK _ (gives_val)
            apply chain_leq (D := [(20, some 0), (19, some 1)]) (by kernel_rfl)
            · intro ρ W hF; (try simp [FactsD] at hF); simp [Lets, *]
            · intro ρ W ⟨p1, p2, p3⟩ hG hF K hK; (try simp [FactsD] at hF); have ⟨hc, hf, hz⟩ := bcell (Gr.tr (Gr.drew _) hG); go_simp; exact hK _ (gives_val)
            apply chain_leq (D := [(19, some 2)]) (by kernel_rfl)
            · intro ρ W hF; (try simp [FactsD] at hF); simp [Lets, *]
            · intro ρ W ⟨p1, p2, p3⟩ hG hF K hK; (try simp [FactsD] at hF); have ⟨hc, hf, hz⟩ := bcell (Gr.tr (Gr.drew _) hG); go_simp; exact hK _ (gives_call (HS2.out _))
            apply chain_leq (D := [(21, some 1), (22, some 0), (19, some 3)]) (by kernel_rfl)
            · intro ρ W hF; (try simp [FactsD] at hF); simp [Lets, *]
            · intro ρ W ⟨p1, p2, p3⟩ hG hF K hK; (try simp [FactsD] at hF); have ⟨hc, hf, hz⟩ := bcell (Gr.tr (Gr.drew _) hG); go_simp; exact hK _ (gives_call (HW2.out _))
            apply chain_leq (D := [(23, some 0), (19, some 4)]) (by kernel_rfl)
            · intro ρ W hF; (try simp [FactsD] at hF); simp [Lets, *]
            · intro ρ W ⟨p1, p2, p3⟩ hG hF K hK; (try simp [FactsD] at hF); have ⟨hc, hf, hz⟩ := bcell (Gr.tr (Gr.drew _) hG); go_simp; exact hK _ (gives_val)
            apply chain_eq (D := [(19, some 5), (24, some 0)]) rfl (by kernel_rfl)
            · intro ρ W ⟨p1, p2, p3⟩ hG hF K hK; (try simp [FactsD] at hF); have ⟨hc, hf, hz⟩ := bcell (Gr.tr (Gr.drew _) hG); go_simp; exact hK _ (gives_val)
            refine chain_done ?_
            intro vs W hG hV
            obtain ⟨e11, -⟩ := hV
            simp only [Nat.reduceSub] at e11
            simp only [lay, Act.put, List.getElem?_toArray, List.getElem?_cons_succ, List.getElem?_cons_zero, Option.bind_some, List.setIfInBounds_toArray, List.set_cons_succ, List.set_cons_zero]
            generalize vs 0 = v0
            generalize vs 1 = v1
            generalize vs 2 = v2
            generalize vs 3 = v3
            generalize vs 4 = v4
            generalize vs 5 = v5
            generalize vs 6 = v6
            generalize vs 7 = v7
            generalize vs 8 = v8
            generalize vs 9 = v9
            generalize vs 10 = v10
            generalize vs 11 = v11 at *
            subst e11
            obtain ⟨hc, hf, hz⟩ := bcell hG
            have HGW := Lib.hid (HGQ.out.tr hG)
            clear hG
            go_wp2_with fail
            go_ret
            exact ⟨by rw [HR.out]; rfl, HGW.out⟩
          | true =>
            rw [hb'] at HW2
            have HY := Lib.hid (show m.ok = true by have h9 := HOK.out; simp_all)
            clear ha hb'
            go_wp2_with fail
            have HGQ := Lib.hid (show Gr w (wr.alloc (Obj.cells #[.int .i64 m.a, .int .i64 m.b, .int .i64 m.c, .int .i64 m.d] 65)) from HG.out.tr (Gr.alloc _ _))
            generalize wr.alloc (Obj.cells #[.int .i64 m.a, .int .i64 m.b, .int .i64 m.c, .int .i64 m.d] 65) = wq at *
            clear z0 z1 z2 z3
            obtain ⟨z0, z1, z2, z3⟩ := cells4 HF.out
            have zl := HF.out.lt
            refine region2 12 ?_ ?_ ?_
            · kernel_rfl
            · kernel_rfl
            simp only [List.take_succ_cons, List.take_zero, List.drop_succ_cons, List.drop_zero]
            apply chain_eq (D := [(4, none)]) rfl (by kernel_rfl)
            · intro ρ W ⟨p1, p2, p3⟩ hG hF K hK; (try simp [FactsD] at hF); have ⟨hc, hf, hz⟩ := bcell (Gr.tr (Gr.drew _) hG); go_simp; exact hK _ (gives_val)
            apply chain_eq (D := [(14, some 0)]) rfl (by kernel_rfl)
            · intro ρ W ⟨p1, p2, p3⟩ hG hF K hK; (try simp [FactsD] at hF); have ⟨hc, hf, hz⟩ := bcell (Gr.tr (Gr.drew _) hG); go_simp; exact hK _ (gives_val)
            apply chain_eq (D := []) rfl (by kernel_rfl)
            · intro ρ W ⟨p1, p2, p3⟩ hG hF K hK; (try simp [FactsD] at hF); have ⟨hc, hf, hz⟩ := bcell (Gr.tr (Gr.drew _) hG); go_simp; exact hK _ (gives_call (HS1.out _))
            apply chain_eq (D := [(15, some 1), (16, some 0)]) rfl (by kernel_rfl)
            · intro ρ W ⟨p1, p2, p3⟩ hG hF K hK; (try simp [FactsD] at hF); have ⟨hc, hf, hz⟩ := bcell (Gr.tr (Gr.drew _) hG); go_simp; exact hK _ (gives_call (HW1.out _))
            apply chain_eq (D := [(17, some 0)]) rfl (by kernel_rfl)
            · intro ρ W ⟨p1, p2, p3⟩ hG hF K hK; (try simp [FactsD] at hF); have ⟨hc, hf, hz⟩ := bcell (Gr.tr (Gr.drew _) hG); go_simp; exact hK _ (gives_val)
            apply chain_eq (D := [(18, some 0)]) rfl (by kernel_rfl)
            · intro ρ W ⟨p1, p2, p3⟩ hG hF K hK; (try simp [FactsD] at hF); have ⟨hc, hf, hz⟩ := bcell (Gr.tr (Gr.drew _) hG); go_simp; exact hK _ (gives_val)
            apply chain_leq (D := [(4, none), (19, some 0)]) (by kernel_rfl)
            · intro ρ W hF; (try simp [FactsD] at hF); simp [Lets, *]
            · intro ρ W ⟨p1, p2, p3⟩ hG hF K hK; (try simp [FactsD] at hF); have ⟨hc, hf, hz⟩ := bcell (Gr.tr (Gr.drew _) hG); go_simp; exact hK _ (gives_val)
            apply chain_leq (D := [(20, some 0), (19, some 1)]) (by kernel_rfl)
            · intro ρ W hF; (try simp [FactsD] at hF); simp [Lets, *]
            · intro ρ W ⟨p1, p2, p3⟩ hG hF K hK; (try simp [FactsD] at hF); have ⟨hc, hf, hz⟩ := bcell (Gr.tr (Gr.drew _) hG); go_simp; exact hK _ (gives_val)
            apply chain_leq (D := [(19, some 2)]) (by kernel_rfl)
            · intro ρ W hF; (try simp [FactsD] at hF); simp [Lets, *]
            · intro ρ W ⟨p1, p2, p3⟩ hG hF K hK; (try simp [FactsD] at hF); have ⟨hc, hf, hz⟩ := bcell (Gr.tr (Gr.drew _) hG); go_simp; exact hK _ (gives_call (HS2.out _))
            apply chain_leq (D := [(21, some 1), (22, some 0), (19, some 3)]) (by kernel_rfl)
            · intro ρ W hF; (try simp [FactsD] at hF); simp [Lets, *]
            · intro ρ W ⟨p1, p2, p3⟩ hG hF K hK; (try simp [FactsD] at hF); have ⟨hc, hf, hz⟩ := bcell (Gr.tr (Gr.drew _) hG); go_simp; exact hK _ (gives_call (HW2.out _))
            apply chain_leq (D := [(23, some 0), (19, some 4)]) (by kernel_rfl)
            · intro ρ W hF; (try simp [FactsD] at hF); simp [Lets, *]
            · intro ρ W ⟨p1, p2, p3⟩ hG hF K hK; (try simp [FactsD] at hF); have ⟨hc, hf, hz⟩ := bcell (Gr.tr (Gr.drew _) hG); go_simp; exact hK _ (gives_val)
            apply chain_eq (D := [(19, some 5), (24, some 0)]) rfl (by kernel_rfl)
            · intro ρ W ⟨p1, p2, p3⟩ hG hF K hK; (try simp [FactsD] at hF); have ⟨hc, hf, hz⟩ := bcell (Gr.tr (Gr.drew _) hG); go_simp; exact hK _ (gives_val)
            refine chain_done ?_
            intro vs W hG hV
            obtain ⟨e11, -⟩ := hV
            simp only [Nat.reduceSub] at e11
            simp only [lay, Act.put, List.getElem?_toArray, List.getElem?_cons_succ, List.getElem?_cons_zero, Option.bind_some, List.setIfInBounds_toArray, List.set_cons_succ, List.set_cons_zero]
            generalize vs 0 = v0
            generalize vs 1 = v1
            generalize vs 2 = v2
            generalize vs 3 = v3
            generalize vs 4 = v4
            generalize vs 5 = v5
            generalize vs 6 = v6
            generalize vs 7 = v7
            generalize vs 8 = v8
            generalize vs 9 = v9
            generalize vs 10 = v10
            generalize vs 11 = v11 at *
            subst e11
            obtain ⟨hc, hf, hz⟩ := bcell hG
            have HGW := Lib.hid (HGQ.out.tr hG)
            clear hG
            go_wp2_with fail
            refine ⟨⟨n + 1, by omega, by go_num, HGW, Lib.hid fun j m' hj hm' => ?_⟩, by simp [intOf]; omega⟩
            by_cases hjn : j = n
            · subst hjn
              have := HM.out
              rw [hm'] at this
              cases this
              exact HY.out
            · exact HN.out j m' (by omega) hm'
      · have hnn : n = l.length := by omega
        have hd : decide ((n : Int) < l.length) = false := by simp; omega
        have HR := Lib.hid (okRow_yes H10.out (fun j m hm => HN.out j m (by rw [hnn]; exact (List.getElem?_eq_some_iff.1 hm).1) hm))
        clear hnn
        go_wp2_with fail
        go_ret
        exact ⟨by rw [HR.out]; rfl, HG.out⟩

end Go.Proofs.Ytjlaoiimbhlafaa
