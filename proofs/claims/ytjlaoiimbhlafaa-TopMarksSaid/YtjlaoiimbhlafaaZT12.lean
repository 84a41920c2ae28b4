import Derived.Test.YtjlaoiimbhlafaaZT11
namespace Go.Proofs.Ytjlaoiimbhlafaa.Pq
open Go.RowKit


/-- The cells of a block from a place on. -/
def CellsFrom (w : World) (b : Nat) : Nat → List Value → Prop
  | _, [] => True
  | i, x :: xs => w.cell? ⟨b, i, none⟩ = some x ∧ CellsFrom w b (i + 1) xs
theorem CellsFrom.mk {w : World} {b : Nat} : ∀ {xs : List Value} {i : Nat}, (∀ j x, xs[j]? = some x → w.cell? ⟨b, i + j, none⟩ = some x) → CellsFrom w b i xs
  | [], _, _ => trivial
  | x :: xs, i, h => ⟨by have := h 0 x rfl; simpa using this, CellsFrom.mk fun j y hy => by have := h (j + 1) y (by simpa using hy); rwa [show i + 1 + j = i + (j + 1) by omega]⟩
theorem _root_.Go.Proofs.Ytjlaoiimbhlafaa.Box.facts {w : World} {b : Nat} {vs : List Value} {T : TypeId} (h : Box w b vs T) : CellsFrom w b 0 vs ∧ b < w.heap.size :=
  ⟨CellsFrom.mk fun j x hx => by rw [Nat.zero_add]; exact h.cell hx, h.lt⟩
def Th.vals (t : Th) : List Value := [.int .i64 t.a, .int .i64 t.b, .int .i64 t.c, .int .i64 t.d, .int .i64 t.e, .int .i64 t.f, .int .i64 t.g, .int .i64 t.h, .int .i64 t.z]
/-- A slice value reads as this list of things. -/
def ThingsAt (l : List Th) (v : Value) (w : World) : Prop :=
  l.length ≤ 1000 ∧ ((l = [] ∧ v = .slice none 0 0) ∨ ∃ b o cap, v = .slice (some ⟨b, o, none⟩) l.length cap ∧ b < w.heap.size ∧ ∀ i t, l[i]? = some t → CellsFrom w b (o + i * 9) t.vals)
theorem CellsFrom.grow {w w' : World} {b : Nat} (hb : b < w.heap.size) (hg : Gr w w') : ∀ {xs : List Value} {i : Nat}, CellsFrom w b i xs → CellsFrom w' b i xs
  | [], _, _ => trivial
  | x :: xs, i, h => ⟨by rw [(bcell hg).1 _ _ hb]; exact h.1, CellsFrom.grow hb hg h.2⟩
theorem ThingsAt.lasts (l : List Th) : Lasts (ThingsAt l) := fun v W W' h hG => by
  obtain ⟨h0, h⟩ := h
  refine ⟨h0, ?_⟩
  rcases h with h | ⟨b, o, cap, h1, h2, h3⟩
  · exact .inl h
  · exact .inr ⟨b, o, cap, h1, (bcell hG).2.2 _ h2, fun i t hi => CellsFrom.grow h2 hG (h3 i t hi)⟩
theorem ThingsAt.len {l : List Th} {v : Value} {w : World} (h : ThingsAt l v w) : ∃ p cap, v = .slice p l.length cap ∧ l.length ≤ 1000 := by
  obtain ⟨h0, h⟩ := h
  rcases h with ⟨rfl, rfl⟩ | ⟨b, o, cap, h1, h2, h3⟩
  · exact ⟨none, 0, rfl, by simp⟩
  · exact ⟨_, _, h1, h0⟩
theorem CellsFrom.nine {w : World} {b i : Nat} {x0 x1 x2 x3 x4 x5 x6 x7 x8 : Value} (h : CellsFrom w b i [x0, x1, x2, x3, x4, x5, x6, x7, x8]) : w.cell? ⟨b, i, none⟩ = some x0 ∧ w.cell? ⟨b, i + 1, none⟩ = some x1 ∧ w.cell? ⟨b, i + 2, none⟩ = some x2 ∧ w.cell? ⟨b, i + 3, none⟩ = some x3 ∧ w.cell? ⟨b, i + 4, none⟩ = some x4 ∧ w.cell? ⟨b, i + 5, none⟩ = some x5 ∧ w.cell? ⟨b, i + 6, none⟩ = some x6 ∧ w.cell? ⟨b, i + 7, none⟩ = some x7 ∧ w.cell? ⟨b, i + 8, none⟩ = some x8 :=
  ⟨h.1, h.2.1, h.2.2.1, h.2.2.2.1, h.2.2.2.2.1, h.2.2.2.2.2.1, h.2.2.2.2.2.2.1, h.2.2.2.2.2.2.2.1, h.2.2.2.2.2.2.2.2.1⟩
theorem SpansAt.four (a b c d e f g h : Int) (W : World) (T : TypeId) : SpansAt [(a, b), (c, d), (e, f), (g, h)] (.slice (some ⟨W.heap.size, 0, none⟩) 4 4) (W.alloc (.cells #[.int .i64 a, .int .i64 b, .int .i64 c, .int .i64 d, .int .i64 e, .int .i64 f, .int .i64 g, .int .i64 h] T)) :=
  ⟨W.heap.size, 0, 4, rfl, by simp, by simp, fun i hi => by
    have hi' : i < 4 := by simpa using hi
    match i, hi' with
    | 0, _ => exact ⟨by simp [go_sem], by simp [go_sem]⟩
    | 1, _ => exact ⟨by simp [go_sem], by simp [go_sem]⟩
    | 2, _ => exact ⟨by simp [go_sem], by simp [go_sem]⟩
    | 3, _ => exact ⟨by simp [go_sem], by simp [go_sem]⟩⟩
theorem SpansAt.four' (a b c d e f g h : Int) (W : World) (T : TypeId) (n : Nat) (hn : n = W.heap.size) : SpansAt [(a, b), (c, d), (e, f), (g, h)] (.slice (some ⟨n, 0, none⟩) 4 4) (W.alloc (.cells #[.int .i64 a, .int .i64 b, .int .i64 c, .int .i64 d, .int .i64 e, .int .i64 f, .int .i64 g, .int .i64 h] T)) := by
  subst hn; exact SpansAt.four a b c d e f g h W T
theorem require_ok' {b : Bool} (hb : b = true) (k : Int) (w : World) : Calls Try.prog 113 #[.bool b, .int .i64 k] w fun e w' => e = .returned (.tuple #[]) ∧ Below w.heap.size w w' := by
  subst hb; exact require_ok k w
theorem require_no' {b : Bool} (hb : b = false) (k : Int) (w : World) : Calls Try.prog 113 #[.bool b, .int .i64 k] w fun e w' => e = .panicked [{ v := .iface 29 (.int .i64 k), recovered := false }] ∧ Below w.heap.size w w' := by
  subst hb; exact require_no k w
/-- The thing is valid. -/
def Th.valid (ne fa : Int) (t : Th) : Bool := [(t.a, t.b), (t.c, t.d), (t.e, t.f), (t.g, t.h)].all (okSp (-4000) 4000) && (decide (t.z = 0) || (decide (ne ≤ t.z) && decide (t.z ≤ fa)))
def headValid (fl fh bl bh ti ne fa : Int) (n : Nat) : Nat → Bool
  | 0 => okSp 1 50000 (fl, fh)
  | 1 => okSp 1 10000 (bl, bh)
  | 2 => decide (0 ≤ ti) && decide (ti ≤ 1000)
  | 3 => decide (2000 ≤ ne) && decide (ne ≤ 1073741824)
  | 4 => decide (ne ≤ fa) && decide (fa ≤ 1073741824)
  | _ => decide (n ≤ 12)
def valid (fl fh bl bh ti ne fa : Int) (l : List Th) : Bool := (List.range 6).all (headValid fl fh bl bh ti ne fa l.length) && l.all (Th.valid ne fa)
set_option maxRecDepth 100000 in
set_option maxHeartbeats 4000000 in
theorem check_any (fl fh bl bh ti ne fa : Int) (v : Value) (l : List Th) (w : World) (h : ThingsAt l v w) :
    Calls Try.prog 125 #[.agg #[.int .i64 fl, .int .i64 fh, .int .i64 bl, .int .i64 bh, .int .i64 ti, .int .i64 ne, .int .i64 fa, v]] w fun e w' => (e = if valid fl fh bl bh ti ne fa l then .returned (.tuple #[]) else .panicked [{ v := .iface 29 (.int .i64 1), recovered := false }]) ∧ Below w.heap.size w w' := by
  have hpost : ∀ k, k < 6 → headValid fl fh bl bh ti ne fa l.length k = false → valid fl fh bl bh ti ne fa l = false := fun k hk h => by
    unfold valid
    rw [Bool.and_eq_false_iff]
    exact .inl (List.all_eq_false.2 ⟨k, List.mem_range.2 hk, by simp [h]⟩)
  have HP := Lib.hid hpost
  clear hpost
  obtain ⟨sp, cap, rfl, hlen⟩ := h.len
  generalize hx : (if valid fl fh bl bh ti ne fa l then Ending.returned (.tuple #[]) else Ending.panicked [{ v := .iface 29 (.int .i64 1), recovered := false }]) = x
  have HX := Lib.hid hx
  clear hx
  go_enter Try.func125, Try.ntmps125
  go_wp2
  have hB : Box (w.alloc (.cells #[.int .i64 fl, .int .i64 fh, .int .i64 bl, .int .i64 bh, .int .i64 ti, .int .i64 ne, .int .i64 fa, .slice sp l.length cap] 71)) w.heap.size [.int .i64 fl, .int .i64 fh, .int .i64 bl, .int .i64 bh, .int .i64 ti, .int .i64 ne, .int .i64 fa, .slice sp l.length cap] 71 := Box.fresh w _ _
  have hW : Below w.heap.size w (w.alloc (.cells #[.int .i64 fl, .int .i64 fh, .int .i64 bl, .int .i64 bh, .int .i64 ti, .int .i64 ne, .int .i64 fa, .slice sp l.length cap] 71)) := (Below.refl _ _).alloc (Nat.le_refl _) _
  have hT : ThingsAt l (.slice sp l.length cap) (w.alloc (.cells #[.int .i64 fl, .int .i64 fh, .int .i64 bl, .int .i64 bh, .int .i64 ti, .int .i64 ne, .int .i64 fa, .slice sp l.length cap] 71)) := ThingsAt.lasts l _ _ _ h (Gr.alloc _ _)
  generalize w.alloc (.cells #[.int .i64 fl, .int .i64 fh, .int .i64 bl, .int .i64 bh, .int .i64 ti, .int .i64 ne, .int .i64 fa, .slice sp l.length cap] 71) = W0 at *
  have HB := Lib.hid hB
  have HW := Lib.hid hW
  have HT := Lib.hid hT
  clear hB hW hT h
  have C := HB.out.facts
  simp only [CellsFrom, Nat.zero_add, Nat.reduceAdd, and_true] at C
  by_cases hv : headValid fl fh bl bh ti ne fa l.length 0 = false
  · refine region2 6 ?_ ?_ ?_
    · kernel_rfl
    · kernel_rfl
    simp only [List.take_succ_cons, List.take_zero, List.drop_succ_cons, List.drop_zero]
    apply chain_eq (D := []) rfl (by kernel_rfl)
    · intro ρ W ⟨p1, p2, p3⟩ hG hF K hK; (try simp [FactsD] at hF); have ⟨hc, hf, hz⟩ := bcell (Gr.tr (Gr.drew _) hG); go_simp; exact hK _ (gives_call (span_any _ _ _))
    apply chain_eq (D := [(1, none)]) rfl (by kernel_rfl)
    · intro ρ W ⟨p1, p2, p3⟩ hG hF K hK; (try simp [FactsD] at hF); have ⟨hc, hf, hz⟩ := bcell (Gr.tr (Gr.drew _) hG); go_simp; exact hK _ (gives_val)
    apply chain_eq (D := [(6, some 0)]) rfl (by kernel_rfl)
    · intro ρ W ⟨p1, p2, p3⟩ hG hF K hK; (try simp [FactsD] at hF); have ⟨hc, hf, hz⟩ := bcell (Gr.tr (Gr.drew _) hG); go_simp; exact hK _ (gives_val)
    refine chain_any (V := SpansAt [(fl, fh)]) (D := [(7, some 0)]) rfl (by kernel_rfl) (SpansAt.lasts _) ?_ ?_
    · intro ρ W ⟨p1, p2, p3⟩ hG hF K hK; (try simp [FactsD] at hF); have ⟨hc, hf, hz⟩ := bcell (Gr.tr (Gr.drew _) hG); go_simp; exact hK _ (⟨SpansAt.one _ _ _ _, Gr.alloc _ _⟩)
    apply chain_eq (D := [(5, some 3), (8, some 0)]) rfl (by kernel_rfl)
    · intro ρ W ⟨p1, p2, p3⟩ hG hF K hK; (try simp [FactsD] at hF); have ⟨hc, hf, hz⟩ := bcell (Gr.tr (Gr.drew _) hG); obtain ⟨hF1, hF2⟩ := hF; go_simp; exact hK _ (gives_call (within_any _ _ _ _ _ hF2))
    refine chain_any (V := fun _ _ => False) (D := [(9, some 0)]) rfl (by kernel_rfl) (fun _ _ _ h _ => h) ?_ ?_
    · intro ρ W ⟨p1, p2, p3⟩ hG hF K hK; (try simp [FactsD] at hF); have ⟨hc, hf, hz⟩ := bcell (Gr.tr (Gr.drew _) hG); go_simp; exact hK _ (gives_panic (require_no' (by simpa [headValid] using hv) _ _) (fun W' hg a' ha' => ⟨ha', by rw [← HX.out, HP.out 0 (by omega) hv]; rfl, bgr HW.out HW.out.size (Gr.tr (Gr.tr (Gr.drew _) hG) hg)⟩))
    refine chain_done ?_
    intro vs W hG hV
    exact (hV.1 : False).elim
  replace hv : headValid fl fh bl bh ti ne fa l.length 0 = true := by simpa using hv
  refine region2 6 ?_ ?_ ?_
  · kernel_rfl
  · kernel_rfl
  simp only [List.take_succ_cons, List.take_zero, List.drop_succ_cons, List.drop_zero]
  apply chain_eq (D := []) rfl (by kernel_rfl)
  · intro ρ W ⟨p1, p2, p3⟩ hG hF K hK; (try simp [FactsD] at hF); have ⟨hc, hf, hz⟩ := bcell (Gr.tr (Gr.drew _) hG); go_simp; exact hK _ (gives_call (span_any _ _ _))
  apply chain_eq (D := [(1, none)]) rfl (by kernel_rfl)
  · intro ρ W ⟨p1, p2, p3⟩ hG hF K hK; (try simp [FactsD] at hF); have ⟨hc, hf, hz⟩ := bcell (Gr.tr (Gr.drew _) hG); go_simp; exact hK _ (gives_val)
  apply chain_eq (D := [(6, some 0)]) rfl (by kernel_rfl)
  · intro ρ W ⟨p1, p2, p3⟩ hG hF K hK; (try simp [FactsD] at hF); have ⟨hc, hf, hz⟩ := bcell (Gr.tr (Gr.drew _) hG); go_simp; exact hK _ (gives_val)
  refine chain_any (V := SpansAt [(fl, fh)]) (D := [(7, some 0)]) rfl (by kernel_rfl) (SpansAt.lasts _) ?_ ?_
  · intro ρ W ⟨p1, p2, p3⟩ hG hF K hK; (try simp [FactsD] at hF); have ⟨hc, hf, hz⟩ := bcell (Gr.tr (Gr.drew _) hG); go_simp; exact hK _ (⟨SpansAt.one _ _ _ _, Gr.alloc _ _⟩)
  apply chain_eq (D := [(5, some 3), (8, some 0)]) rfl (by kernel_rfl)
  · intro ρ W ⟨p1, p2, p3⟩ hG hF K hK; (try simp [FactsD] at hF); have ⟨hc, hf, hz⟩ := bcell (Gr.tr (Gr.drew _) hG); obtain ⟨hF1, hF2⟩ := hF; go_simp; exact hK _ (gives_call (within_any _ _ _ _ _ hF2))
  apply chain_eq (D := [(9, some 0)]) rfl (by kernel_rfl)
  · intro ρ W ⟨p1, p2, p3⟩ hG hF K hK; (try simp [FactsD] at hF); have ⟨hc, hf, hz⟩ := bcell (Gr.tr (Gr.drew _) hG); go_simp; exact hK _ (gives_call (require_ok' (by simpa [headValid] using hv) _ _))
  refine chain_done ?_
  intro vs W hG hV
  clear hV
  simp only [lay, Act.put, List.getElem?_toArray, List.getElem?_cons_succ, List.getElem?_cons_zero, Option.bind_some, List.setIfInBounds_toArray, List.set_cons_succ, List.set_cons_zero]
  generalize vs 0 = v0
  generalize vs 1 = v1
  generalize vs 2 = v2
  generalize vs 3 = v3
  generalize vs 4 = v4
  generalize vs 5 = v5
  obtain ⟨hc, hf, hz⟩ := bcell hG
  replace HB := Lib.hid (HB.out.grow hG)
  replace HW := Lib.hid (bgr HW.out HW.out.size hG)
  replace HT := Lib.hid (ThingsAt.lasts l _ _ _ HT.out hG)
  have H0 := Lib.hid hv
  clear hc hf hz C hv hG
  go_wp2_with fail
  have C := HB.out.facts
  simp only [CellsFrom, Nat.zero_add, Nat.reduceAdd, and_true] at C
  by_cases hv : headValid fl fh bl bh ti ne fa l.length 1 = false
  · refine region2 6 ?_ ?_ ?_
    · kernel_rfl
    · kernel_rfl
    simp only [List.take_succ_cons, List.take_zero, List.drop_succ_cons, List.drop_zero]
    apply chain_eq (D := []) rfl (by kernel_rfl)
    · intro ρ W ⟨p1, p2, p3⟩ hG hF K hK; (try simp [FactsD] at hF); have ⟨hc, hf, hz⟩ := bcell (Gr.tr (Gr.drew _) hG); go_simp; exact hK _ (gives_call (span_any _ _ _))
    apply chain_eq (D := [(1, none)]) rfl (by kernel_rfl)
    · intro ρ W ⟨p1, p2, p3⟩ hG hF K hK; (try simp [FactsD] at hF); have ⟨hc, hf, hz⟩ := bcell (Gr.tr (Gr.drew _) hG); go_simp; exact hK _ (gives_val)
    apply chain_eq (D := [(12, some 0)]) rfl (by kernel_rfl)
    · intro ρ W ⟨p1, p2, p3⟩ hG hF K hK; (try simp [FactsD] at hF); have ⟨hc, hf, hz⟩ := bcell (Gr.tr (Gr.drew _) hG); go_simp; exact hK _ (gives_val)
    refine chain_any (V := SpansAt [(bl, bh)]) (D := [(13, some 0)]) rfl (by kernel_rfl) (SpansAt.lasts _) ?_ ?_
    · intro ρ W ⟨p1, p2, p3⟩ hG hF K hK; (try simp [FactsD] at hF); have ⟨hc, hf, hz⟩ := bcell (Gr.tr (Gr.drew _) hG); go_simp; exact hK _ (⟨SpansAt.one _ _ _ _, Gr.alloc _ _⟩)
    apply chain_eq (D := [(11, some 3), (14, some 0)]) rfl (by kernel_rfl)
    · intro ρ W ⟨p1, p2, p3⟩ hG hF K hK; (try simp [FactsD] at hF); have ⟨hc, hf, hz⟩ := bcell (Gr.tr (Gr.drew _) hG); obtain ⟨hF1, hF2⟩ := hF; go_simp; exact hK _ (gives_call (within_any _ _ _ _ _ hF2))
    refine chain_any (V := fun _ _ => False) (D := [(15, some 0)]) rfl (by kernel_rfl) (fun _ _ _ h _ => h) ?_ ?_
    · intro ρ W ⟨p1, p2, p3⟩ hG hF K hK; (try simp [FactsD] at hF); have ⟨hc, hf, hz⟩ := bcell (Gr.tr (Gr.drew _) hG); go_simp; exact hK _ (gives_panic (require_no' (by simpa [headValid] using hv) _ _) (fun W' hg a' ha' => ⟨ha', by rw [← HX.out, HP.out 1 (by omega) hv]; rfl, bgr HW.out HW.out.size (Gr.tr (Gr.tr (Gr.drew _) hG) hg)⟩))
    refine chain_done ?_
    intro vs W hG hV
    exact (hV.1 : False).elim
  replace hv : headValid fl fh bl bh ti ne fa l.length 1 = true := by simpa using hv
  refine region2 6 ?_ ?_ ?_
  · kernel_rfl
  · kernel_rfl
  simp only [List.take_succ_cons, List.take_zero, List.drop_succ_cons, List.drop_zero]
  apply chain_eq (D := []) rfl (by kernel_rfl)
  · intro ρ W ⟨p1, p2, p3⟩ hG hF K hK; (try simp [FactsD] at hF); have ⟨hc, hf, hz⟩ := bcell (Gr.tr (Gr.drew _) hG); go_simp; exact hK _ (gives_call (span_any _ _ _))
  apply chain_eq (D := [(1, none)]) rfl (by kernel_rfl)
  · intro ρ W ⟨p1, p2, p3⟩ hG hF K hK; (try simp [FactsD] at hF); have ⟨hc, hf, hz⟩ := bcell (Gr.tr (Gr.drew _) hG); go_simp; exact hK _ (gives_val)
  apply chain_eq (D := [(12, some 0)]) rfl (by kernel_rfl)
  · intro ρ W ⟨p1, p2, p3⟩ hG hF K hK; (try simp [FactsD] at hF); have ⟨hc, hf, hz⟩ := bcell (Gr.tr (Gr.drew _) hG); go_simp; exact hK _ (gives_val)
  refine chain_any (V := SpansAt [(bl, bh)]) (D := [(13, some 0)]) rfl (by kernel_rfl) (SpansAt.lasts _) ?_ ?_
  · intro ρ W ⟨p1, p2, p3⟩ hG hF K hK; (try simp [FactsD] at hF); have ⟨hc, hf, hz⟩ := bcell (Gr.tr (Gr.drew _) hG); go_simp; exact hK _ (⟨SpansAt.one _ _ _ _, Gr.alloc _ _⟩)
  apply chain_eq (D := [(11, some 3), (14, some 0)]) rfl (by kernel_rfl)
  · intro ρ W ⟨p1, p2, p3⟩ hG hF K hK; (try simp [FactsD] at hF); have ⟨hc, hf, hz⟩ := bcell (Gr.tr (Gr.drew _) hG); obtain ⟨hF1, hF2⟩ := hF; go_simp; exact hK _ (gives_call (within_any _ _ _ _ _ hF2))
  apply chain_eq (D := [(15, some 0)]) rfl (by kernel_rfl)
  · intro ρ W ⟨p1, p2, p3⟩ hG hF K hK; (try simp [FactsD] at hF); have ⟨hc, hf, hz⟩ := bcell (Gr.tr (Gr.drew _) hG); go_simp; exact hK _ (gives_call (require_ok' (by simpa [headValid] using hv) _ _))
  refine chain_done ?_
  intro vs W hG hV
  clear hV
  simp only [lay, Act.put, List.getElem?_toArray, List.getElem?_cons_succ, List.getElem?_cons_zero, Option.bind_some, List.setIfInBounds_toArray, List.set_cons_succ, List.set_cons_zero]
  generalize vs 0 = v0
  generalize vs 1 = v1
  generalize vs 2 = v2
  generalize vs 3 = v3
  generalize vs 4 = v4
  generalize vs 5 = v5
  obtain ⟨hc, hf, hz⟩ := bcell hG
  replace HB := Lib.hid (HB.out.grow hG)
  replace HW := Lib.hid (bgr HW.out HW.out.size hG)
  replace HT := Lib.hid (ThingsAt.lasts l _ _ _ HT.out hG)
  have H1 := Lib.hid hv
  clear hc hf hz C hv hG
  go_wp2_with fail
  have C := HB.out.facts
  simp only [CellsFrom, Nat.zero_add, Nat.reduceAdd, and_true] at C
  by_cases hv : headValid fl fh bl bh ti ne fa l.length 2 = false
  · refine region2 5 ?_ ?_ ?_
    · kernel_rfl
    · kernel_rfl
    simp only [List.take_succ_cons, List.take_zero, List.drop_succ_cons, List.drop_zero]
    apply chain_eq (D := [(1, none)]) rfl (by kernel_rfl)
    · intro ρ W ⟨p1, p2, p3⟩ hG hF K hK; (try simp [FactsD] at hF); have ⟨hc, hf, hz⟩ := bcell (Gr.tr (Gr.drew _) hG); go_simp; exact hK _ (gives_val)
    apply chain_eq (D := [(17, some 0)]) rfl (by kernel_rfl)
    · intro ρ W ⟨p1, p2, p3⟩ hG hF K hK; (try simp [FactsD] at hF); have ⟨hc, hf, hz⟩ := bcell (Gr.tr (Gr.drew _) hG); go_simp; exact hK _ (gives_val)
    apply chain_eq (D := []) rfl (by kernel_rfl)
    · intro ρ W ⟨p1, p2, p3⟩ hG hF K hK; (try simp [FactsD] at hF); have ⟨hc, hf, hz⟩ := bcell (Gr.tr (Gr.drew _) hG); go_simp; exact hK _ (gives_call (span_any _ _ _))
    apply chain_eq (D := [(18, some 1), (19, some 0)]) rfl (by kernel_rfl)
    · intro ρ W ⟨p1, p2, p3⟩ hG hF K hK; (try simp [FactsD] at hF); have ⟨hc, hf, hz⟩ := bcell (Gr.tr (Gr.drew _) hG); go_simp; exact hK _ (gives_call (inside_any _ _ _ _))
    refine chain_any (V := fun _ _ => False) (D := [(20, some 0)]) rfl (by kernel_rfl) (fun _ _ _ h _ => h) ?_ ?_
    · intro ρ W ⟨p1, p2, p3⟩ hG hF K hK; (try simp [FactsD] at hF); have ⟨hc, hf, hz⟩ := bcell (Gr.tr (Gr.drew _) hG); go_simp; exact hK _ (gives_panic (require_no' (by simpa [headValid] using hv) _ _) (fun W' hg a' ha' => ⟨ha', by rw [← HX.out, HP.out 2 (by omega) hv]; rfl, bgr HW.out HW.out.size (Gr.tr (Gr.tr (Gr.drew _) hG) hg)⟩))
    refine chain_done ?_
    intro vs W hG hV
    exact (hV.1 : False).elim
  replace hv : headValid fl fh bl bh ti ne fa l.length 2 = true := by simpa using hv
  refine region2 5 ?_ ?_ ?_
  · kernel_rfl
  · kernel_rfl
  simp only [List.take_succ_cons, List.take_zero, List.drop_succ_cons, List.drop_zero]
  apply chain_eq (D := [(1, none)]) rfl (by kernel_rfl)
  · intro ρ W ⟨p1, p2, p3⟩ hG hF K hK; (try simp [FactsD] at hF); have ⟨hc, hf, hz⟩ := bcell (Gr.tr (Gr.drew _) hG); go_simp; exact hK _ (gives_val)
  apply chain_eq (D := [(17, some 0)]) rfl (by kernel_rfl)
  · intro ρ W ⟨p1, p2, p3⟩ hG hF K hK; (try simp [FactsD] at hF); have ⟨hc, hf, hz⟩ := bcell (Gr.tr (Gr.drew _) hG); go_simp; exact hK _ (gives_val)
  apply chain_eq (D := []) rfl (by kernel_rfl)
  · intro ρ W ⟨p1, p2, p3⟩ hG hF K hK; (try simp [FactsD] at hF); have ⟨hc, hf, hz⟩ := bcell (Gr.tr (Gr.drew _) hG); go_simp; exact hK _ (gives_call (span_any _ _ _))
  apply chain_eq (D := [(18, some 1), (19, some 0)]) rfl (by kernel_rfl)
  · intro ρ W ⟨p1, p2, p3⟩ hG hF K hK; (try simp [FactsD] at hF); have ⟨hc, hf, hz⟩ := bcell (Gr.tr (Gr.drew _) hG); go_simp; exact hK _ (gives_call (inside_any _ _ _ _))
  apply chain_eq (D := [(20, some 0)]) rfl (by kernel_rfl)
  · intro ρ W ⟨p1, p2, p3⟩ hG hF K hK; (try simp [FactsD] at hF); have ⟨hc, hf, hz⟩ := bcell (Gr.tr (Gr.drew _) hG); go_simp; exact hK _ (gives_call (require_ok' (by simpa [headValid] using hv) _ _))
  refine chain_done ?_
  intro vs W hG hV
  clear hV
  simp only [lay, Act.put, List.getElem?_toArray, List.getElem?_cons_succ, List.getElem?_cons_zero, Option.bind_some, List.setIfInBounds_toArray, List.set_cons_succ, List.set_cons_zero]
  generalize vs 0 = v0
  generalize vs 1 = v1
  generalize vs 2 = v2
  generalize vs 3 = v3
  generalize vs 4 = v4
  obtain ⟨hc, hf, hz⟩ := bcell hG
  replace HB := Lib.hid (HB.out.grow hG)
  replace HW := Lib.hid (bgr HW.out HW.out.size hG)
  replace HT := Lib.hid (ThingsAt.lasts l _ _ _ HT.out hG)
  have H2 := Lib.hid hv
  clear hc hf hz C hv hG
  go_wp2_with fail
  have C := HB.out.facts
  simp only [CellsFrom, Nat.zero_add, Nat.reduceAdd, and_true] at C
  by_cases hv : headValid fl fh bl bh ti ne fa l.length 3 = false
  · refine region2 5 ?_ ?_ ?_
    · kernel_rfl
    · kernel_rfl
    simp only [List.take_succ_cons, List.take_zero, List.drop_succ_cons, List.drop_zero]
    apply chain_eq (D := [(1, none)]) rfl (by kernel_rfl)
    · intro ρ W ⟨p1, p2, p3⟩ hG hF K hK; (try simp [FactsD] at hF); have ⟨hc, hf, hz⟩ := bcell (Gr.tr (Gr.drew _) hG); go_simp; exact hK _ (gives_val)
    apply chain_eq (D := [(22, some 0)]) rfl (by kernel_rfl)
    · intro ρ W ⟨p1, p2, p3⟩ hG hF K hK; (try simp [FactsD] at hF); have ⟨hc, hf, hz⟩ := bcell (Gr.tr (Gr.drew _) hG); go_simp; exact hK _ (gives_val)
    apply chain_eq (D := []) rfl (by kernel_rfl)
    · intro ρ W ⟨p1, p2, p3⟩ hG hF K hK; (try simp [FactsD] at hF); have ⟨hc, hf, hz⟩ := bcell (Gr.tr (Gr.drew _) hG); go_simp; exact hK _ (gives_call (span_any _ _ _))
    apply chain_eq (D := [(23, some 1), (24, some 0)]) rfl (by kernel_rfl)
    · intro ρ W ⟨p1, p2, p3⟩ hG hF K hK; (try simp [FactsD] at hF); have ⟨hc, hf, hz⟩ := bcell (Gr.tr (Gr.drew _) hG); go_simp; exact hK _ (gives_call (inside_any _ _ _ _))
    refine chain_any (V := fun _ _ => False) (D := [(25, some 0)]) rfl (by kernel_rfl) (fun _ _ _ h _ => h) ?_ ?_
    · intro ρ W ⟨p1, p2, p3⟩ hG hF K hK; (try simp [FactsD] at hF); have ⟨hc, hf, hz⟩ := bcell (Gr.tr (Gr.drew _) hG); go_simp; exact hK _ (gives_panic (require_no' (by simpa [headValid] using hv) _ _) (fun W' hg a' ha' => ⟨ha', by rw [← HX.out, HP.out 3 (by omega) hv]; rfl, bgr HW.out HW.out.size (Gr.tr (Gr.tr (Gr.drew _) hG) hg)⟩))
    refine chain_done ?_
    intro vs W hG hV
    exact (hV.1 : False).elim
  replace hv : headValid fl fh bl bh ti ne fa l.length 3 = true := by simpa using hv
  refine region2 5 ?_ ?_ ?_
  · kernel_rfl
  · kernel_rfl
  simp only [List.take_succ_cons, List.take_zero, List.drop_succ_cons, List.drop_zero]
  apply chain_eq (D := [(1, none)]) rfl (by kernel_rfl)
  · intro ρ W ⟨p1, p2, p3⟩ hG hF K hK; (try simp [FactsD] at hF); have ⟨hc, hf, hz⟩ := bcell (Gr.tr (Gr.drew _) hG); go_simp; exact hK _ (gives_val)
  apply chain_eq (D := [(22, some 0)]) rfl (by kernel_rfl)
  · intro ρ W ⟨p1, p2, p3⟩ hG hF K hK; (try simp [FactsD] at hF); have ⟨hc, hf, hz⟩ := bcell (Gr.tr (Gr.drew _) hG); go_simp; exact hK _ (gives_val)
  apply chain_eq (D := []) rfl (by kernel_rfl)
  · intro ρ W ⟨p1, p2, p3⟩ hG hF K hK; (try simp [FactsD] at hF); have ⟨hc, hf, hz⟩ := bcell (Gr.tr (Gr.drew _) hG); go_simp; exact hK _ (gives_call (span_any _ _ _))
  apply chain_eq (D := [(23, some 1), (24, some 0)]) rfl (by kernel_rfl)
  · intro ρ W ⟨p1, p2, p3⟩ hG hF K hK; (try simp [FactsD] at hF); have ⟨hc, hf, hz⟩ := bcell (Gr.tr (Gr.drew _) hG); go_simp; exact hK _ (gives_call (inside_any _ _ _ _))
  apply chain_eq (D := [(25, some 0)]) rfl (by kernel_rfl)
  · intro ρ W ⟨p1, p2, p3⟩ hG hF K hK; (try simp [FactsD] at hF); have ⟨hc, hf, hz⟩ := bcell (Gr.tr (Gr.drew _) hG); go_simp; exact hK _ (gives_call (require_ok' (by simpa [headValid] using hv) _ _))
  refine chain_done ?_
  intro vs W hG hV
  clear hV
  simp only [lay, Act.put, List.getElem?_toArray, List.getElem?_cons_succ, List.getElem?_cons_zero, Option.bind_some, List.setIfInBounds_toArray, List.set_cons_succ, List.set_cons_zero]
  generalize vs 0 = v0
  generalize vs 1 = v1
  generalize vs 2 = v2
  generalize vs 3 = v3
  generalize vs 4 = v4
  obtain ⟨hc, hf, hz⟩ := bcell hG
  replace HB := Lib.hid (HB.out.grow hG)
  replace HW := Lib.hid (bgr HW.out HW.out.size hG)
  replace HT := Lib.hid (ThingsAt.lasts l _ _ _ HT.out hG)
  have H3 := Lib.hid hv
  clear hc hf hz C hv hG
  go_wp2_with fail
  have C := HB.out.facts
  simp only [CellsFrom, Nat.zero_add, Nat.reduceAdd, and_true] at C
  by_cases hv : headValid fl fh bl bh ti ne fa l.length 4 = false
  · refine region2 7 ?_ ?_ ?_
    · kernel_rfl
    · kernel_rfl
    simp only [List.take_succ_cons, List.take_zero, List.drop_succ_cons, List.drop_zero]
    apply chain_eq (D := [(1, none)]) rfl (by kernel_rfl)
    · intro ρ W ⟨p1, p2, p3⟩ hG hF K hK; (try simp [FactsD] at hF); have ⟨hc, hf, hz⟩ := bcell (Gr.tr (Gr.drew _) hG); go_simp; exact hK _ (gives_val)
    apply chain_eq (D := [(27, some 0)]) rfl (by kernel_rfl)
    · intro ρ W ⟨p1, p2, p3⟩ hG hF K hK; (try simp [FactsD] at hF); have ⟨hc, hf, hz⟩ := bcell (Gr.tr (Gr.drew _) hG); go_simp; exact hK _ (gives_val)
    apply chain_eq (D := [(1, none)]) rfl (by kernel_rfl)
    · intro ρ W ⟨p1, p2, p3⟩ hG hF K hK; (try simp [FactsD] at hF); have ⟨hc, hf, hz⟩ := bcell (Gr.tr (Gr.drew _) hG); go_simp; exact hK _ (gives_val)
    apply chain_eq (D := [(29, some 0)]) rfl (by kernel_rfl)
    · intro ρ W ⟨p1, p2, p3⟩ hG hF K hK; (try simp [FactsD] at hF); have ⟨hc, hf, hz⟩ := bcell (Gr.tr (Gr.drew _) hG); go_simp; exact hK _ (gives_val)
    apply chain_eq (D := [(30, some 0)]) rfl (by kernel_rfl)
    · intro ρ W ⟨p1, p2, p3⟩ hG hF K hK; (try simp [FactsD] at hF); have ⟨hc, hf, hz⟩ := bcell (Gr.tr (Gr.drew _) hG); go_simp; exact hK _ (gives_call (span_any _ _ _))
    apply chain_eq (D := [(28, some 3), (31, some 0)]) rfl (by kernel_rfl)
    · intro ρ W ⟨p1, p2, p3⟩ hG hF K hK; (try simp [FactsD] at hF); have ⟨hc, hf, hz⟩ := bcell (Gr.tr (Gr.drew _) hG); go_simp; exact hK _ (gives_call (inside_any _ _ _ _))
    refine chain_any (V := fun _ _ => False) (D := [(32, some 0)]) rfl (by kernel_rfl) (fun _ _ _ h _ => h) ?_ ?_
    · intro ρ W ⟨p1, p2, p3⟩ hG hF K hK; (try simp [FactsD] at hF); have ⟨hc, hf, hz⟩ := bcell (Gr.tr (Gr.drew _) hG); go_simp; exact hK _ (gives_panic (require_no' (by simpa [headValid] using hv) _ _) (fun W' hg a' ha' => ⟨ha', by rw [← HX.out, HP.out 4 (by omega) hv]; rfl, bgr HW.out HW.out.size (Gr.tr (Gr.tr (Gr.drew _) hG) hg)⟩))
    refine chain_done ?_
    intro vs W hG hV
    exact (hV.1 : False).elim
  replace hv : headValid fl fh bl bh ti ne fa l.length 4 = true := by simpa using hv
  refine region2 7 ?_ ?_ ?_
  · kernel_rfl
  · kernel_rfl
  simp only [List.take_succ_cons, List.take_zero, List.drop_succ_cons, List.drop_zero]
  apply chain_eq (D := [(1, none)]) rfl (by kernel_rfl)
  · intro ρ W ⟨p1, p2, p3⟩ hG hF K hK; (try simp [FactsD] at hF); have ⟨hc, hf, hz⟩ := bcell (Gr.tr (Gr.drew _) hG); go_simp; exact hK _ (gives_val)
  apply chain_eq (D := [(27, some 0)]) rfl (by kernel_rfl)
  · intro ρ W ⟨p1, p2, p3⟩ hG hF K hK; (try simp [FactsD] at hF); have ⟨hc, hf, hz⟩ := bcell (Gr.tr (Gr.drew _) hG); go_simp; exact hK _ (gives_val)
  apply chain_eq (D := [(1, none)]) rfl (by kernel_rfl)
  · intro ρ W ⟨p1, p2, p3⟩ hG hF K hK; (try simp [FactsD] at hF); have ⟨hc, hf, hz⟩ := bcell (Gr.tr (Gr.drew _) hG); go_simp; exact hK _ (gives_val)
  apply chain_eq (D := [(29, some 0)]) rfl (by kernel_rfl)
  · intro ρ W ⟨p1, p2, p3⟩ hG hF K hK; (try simp [FactsD] at hF); have ⟨hc, hf, hz⟩ := bcell (Gr.tr (Gr.drew _) hG); go_simp; exact hK _ (gives_val)
  apply chain_eq (D := [(30, some 0)]) rfl (by kernel_rfl)
  · intro ρ W ⟨p1, p2, p3⟩ hG hF K hK; (try simp [FactsD] at hF); have ⟨hc, hf, hz⟩ := bcell (Gr.tr (Gr.drew _) hG); go_simp; exact hK _ (gives_call (span_any _ _ _))
  apply chain_eq (D := [(28, some 3), (31, some 0)]) rfl (by kernel_rfl)
  · intro ρ W ⟨p1, p2, p3⟩ hG hF K hK; (try simp [FactsD] at hF); have ⟨hc, hf, hz⟩ := bcell (Gr.tr (Gr.drew _) hG); go_simp; exact hK _ (gives_call (inside_any _ _ _ _))
  apply chain_eq (D := [(32, some 0)]) rfl (by kernel_rfl)
  · intro ρ W ⟨p1, p2, p3⟩ hG hF K hK; (try simp [FactsD] at hF); have ⟨hc, hf, hz⟩ := bcell (Gr.tr (Gr.drew _) hG); go_simp; exact hK _ (gives_call (require_ok' (by simpa [headValid] using hv) _ _))
  refine chain_done ?_
  intro vs W hG hV
  clear hV
  simp only [lay, Act.put, List.getElem?_toArray, List.getElem?_cons_succ, List.getElem?_cons_zero, Option.bind_some, List.setIfInBounds_toArray, List.set_cons_succ, List.set_cons_zero]
  generalize vs 0 = v0
  generalize vs 1 = v1
  generalize vs 2 = v2
  generalize vs 3 = v3
  generalize vs 4 = v4
  generalize vs 5 = v5
  generalize vs 6 = v6
  obtain ⟨hc, hf, hz⟩ := bcell hG
  replace HB := Lib.hid (HB.out.grow hG)
  replace HW := Lib.hid (bgr HW.out HW.out.size hG)
  replace HT := Lib.hid (ThingsAt.lasts l _ _ _ HT.out hG)
  have H4 := Lib.hid hv
  clear hc hf hz C hv hG
  have C := HB.out.facts
  simp only [CellsFrom, Nat.zero_add, Nat.reduceAdd, and_true] at C
  skip
  by_cases hv : headValid fl fh bl bh ti ne fa l.length 5 = false
  · have d : decide ((l.length : Int) ≤ 12) = false := by simp [headValid] at hv ⊢; omega
    have d' : decide (l.length ≤ 12) = false := by simp [headValid] at hv ⊢; omega
    have hr := Lib.hid (HX.out.symm.trans (by rw [HP.out 5 (by omega) hv]))
    clear hv
    go_wp2_with (go_at_call 113; refine (require_no _ _).mono ?_; rintro e w1 ⟨rfl, hb1⟩; obtain ⟨hc1, hf1, hz1⟩ := bcell (hb1))
    exact ⟨rfl, by first | rfl | exact hr.out.symm, bgr HW.out HW.out.size hb1⟩
  replace hv : headValid fl fh bl bh ti ne fa l.length 5 = true := by simpa using hv
  have d : decide ((l.length : Int) ≤ 12) = true := by simp [headValid] at hv ⊢; omega
  have d' : decide (l.length ≤ 12) = true := by simp [headValid] at hv ⊢; omega
  have H5 := Lib.hid hv
  clear hv
  go_wp2_with (first | (go_at_call 113; refine (require_ok _ _).mono ?_; rintro e w1 ⟨rfl, hb1⟩; obtain ⟨hc1, hf1, hz1⟩ := bcell (hb1)) | (go_at_call 128; refine (span_any _ _ _).mono ?_; rintro e w2 ⟨rfl, hb2⟩; obtain ⟨hc2, hf2, hz2⟩ := bcell (Gr.tr hb1 hb2)))
  have hgr : Gr W (w2.alloc (Obj.cells #[.int .i64 (-4000), .int .i64 4000] 24)) := (Gr.tr hb1 hb2).tr (Gr.alloc _ _)
  have HQ := Lib.hid (Box.fresh w2 [.int .i64 (-4000), .int .i64 4000] 24)
  replace HB := Lib.hid (HB.out.grow hgr)
  replace HW := Lib.hid (bgr HW.out HW.out.size hgr)
  replace HT := Lib.hid (ThingsAt.lasts l _ _ _ HT.out hgr)
  clear hc1 hf1 hz1 hc2 hf2 hz2 hb1 hb2 C d d' hgr
  change Hid (Box (w2.alloc (Obj.cells #[.int .i64 (-4000), .int .i64 4000] 24)) w2.heap.size [.int .i64 (-4000), .int .i64 4000] 24) at HQ
  generalize w2.heap.size = bp at *
  generalize w2.alloc (Obj.cells #[.int .i64 (-4000), .int .i64 4000] 24) = Wl at *
  have hall : (List.range 6).all (headValid fl fh bl bh ti ne fa l.length) = true := by
    rw [List.all_eq_true]
    intro k hk
    have hk' := List.mem_range.1 hk
    match k, hk' with
    | 0, _ => exact H0.out
    | 1, _ => exact H1.out
    | 2, _ => exact H2.out
    | 3, _ => exact H3.out
    | 4, _ => exact H4.out
    | 5, _ => exact H5.out
  have hno : ∀ t ∈ l, Th.valid ne fa t = false → valid fl fh bl bh ti ne fa l = false := fun t ht hv => by
    unfold valid
    rw [Bool.and_eq_false_iff]
    exact .inr (List.all_eq_false.2 ⟨t, ht, by simp [hv]⟩)
  have hyes : l.all (Th.valid ne fa) = true → valid fl fh bl bh ti ne fa l = true := fun h => by
    unfold valid
    rw [hall, h]; rfl
  have HNO := Lib.hid hno
  have HYES := Lib.hid hyes
  clear hall hno hyes
  have hal := @cal
  have hfl := @fal
  go_loopw [43] (fun i wr => ∃ k : Nat, k ≤ l.length ∧ i = .int .i64 k ∧ Gr Wl wr ∧ (l.take k).all (Th.valid ne fa) = true) (fun i _ => l.length - (intOf i).toNat)
  case atStart => exact ⟨0, Nat.zero_le _, rfl, Gr.same _, by simp⟩
  case round =>
    obtain ⟨k, hk, rfl, hg, ha⟩ := hrel
    have HG := Lib.hid hg
    have HA := Lib.hid ha
    clear hg ha
    have C := (HB.out.grow HG.out).facts
    simp only [CellsFrom, Nat.zero_add, Nat.reduceAdd, and_true] at C
    have CQ := (HQ.out.grow HG.out).facts
    simp only [CellsFrom, Nat.zero_add, and_true] at CQ
    have ht := ThingsAt.lasts l _ _ _ HT.out HG.out
    by_cases hlt : k < l.length
    · obtain ⟨t, htk⟩ : ∃ t, l[k]? = some t := ⟨l[k], List.getElem?_eq_getElem hlt⟩
      obtain ⟨-, ht⟩ := ht
      rcases ht with ⟨e, -⟩ | ⟨b, o, cap', hsp, hb, hc⟩
      · rw [e] at hlt; simp at hlt
      have X := hc k t htk
      obtain ⟨hsp1, -, -⟩ : sp = some ⟨b, o, none⟩ ∧ l.length = l.length ∧ cap = cap' := by simpa using hsp
      subst hsp1
      clear hc hsp
      have hmem : t ∈ l := List.mem_of_getElem? htk
      have HN1 := Lib.hid (HNO.out t hmem)
      have htl : l.take (k + 1) = l.take k ++ [t] := by rw [List.take_add_one, htk]; rfl
      have HTL := Lib.hid htl
      clear htk hmem htl
      obtain ⟨xa, xb, xc, xd, xe, xf, xg, xh, xz⟩ := t
      replace X := CellsFrom.nine X
      simp only at X
      by_cases hv : [(xa, xb), (xc, xd), (xe, xf), (xg, xh)].all (okSp (-4000) 4000) = false
      · have hvd : Th.valid ne fa ⟨xa, xb, xc, xd, xe, xf, xg, xh, xz⟩ = false := by unfold Th.valid; rw [Bool.and_eq_false_iff]; exact .inl hv
        have hr := Lib.hid (HX.out.symm.trans (by rw [HN1.out hvd]))
        clear hvd
        have HV := Lib.hid hv
        clear hv
        go_wp2_with (first | (go_at_call 137; refine (within_any _ _ _ [(xa, xb), (xc, xd), (xe, xf), (xg, xh)] _ (SpansAt.four' _ _ _ _ _ _ _ _ _ _ _ (by simp))).mono ?_; rintro e w1 ⟨rfl, hb1⟩) | (go_at_call 113; refine (require_no' (by simpa using HV.out) _ _).mono ?_; rintro e w2 ⟨rfl, hb2⟩))
        have hgr2 := ((Gr.tr (Gr.alloc wr (Obj.cells #[.int .i64 xa, .int .i64 xb, .int .i64 xc, .int .i64 xd, .int .i64 xe, .int .i64 xf, .int .i64 xg, .int .i64 xh, .int .i64 xz] 76)) (Gr.alloc _ _)).tr hb1).tr hb2
        exact ⟨rfl, hr.out.symm, bgr (bgr HW.out HW.out.size HG.out) (bgr HW.out HW.out.size HG.out).size hgr2⟩
      · replace hv : [(xa, xb), (xc, xd), (xe, xf), (xg, xh)].all (okSp (-4000) 4000) = true := by simpa using hv
        have HV := Lib.hid hv
        clear hv
        go_wp2_with (first | (go_at_call 137; refine (within_any _ _ _ [(xa, xb), (xc, xd), (xe, xf), (xg, xh)] _ (SpansAt.four' _ _ _ _ _ _ _ _ _ _ _ (by simp))).mono ?_; rintro e w1 ⟨rfl, hb1⟩) | (go_at_call 113; refine (require_ok' (by simpa using HV.out) _ _).mono ?_; rintro e w2 ⟨rfl, hb2⟩))
        have hgr2 := ((Gr.tr (Gr.alloc wr (Obj.cells #[.int .i64 xa, .int .i64 xb, .int .i64 xc, .int .i64 xd, .int .i64 xe, .int .i64 xf, .int .i64 xg, .int .i64 xh, .int .i64 xz] 76)) (Gr.alloc _ _)).tr hb1).tr hb2
        have CT := ((((Box.fresh wr [.int .i64 xa, .int .i64 xb, .int .i64 xc, .int .i64 xd, .int .i64 xe, .int .i64 xf, .int .i64 xg, .int .i64 xh, .int .i64 xz] 76).grow (Gr.alloc _ _)).grow hb1).grow hb2).facts
        simp only [CellsFrom, Nat.zero_add, Nat.reduceAdd, and_true] at CT
        clear X C CQ
        have C := (HB.out.grow (HG.out.tr hgr2)).facts
        simp only [CellsFrom, Nat.zero_add, Nat.reduceAdd, and_true] at C
        have HG2 := Lib.hid (HG.out.tr hgr2)
        clear hgr2 hb1 hb2
        generalize wr.heap.size = bt at *
        by_cases hz : xz = 0
        · have z1 : (xz == 0) = true := by simpa using hz
          have hvd : Th.valid ne fa ⟨xa, xb, xc, xd, xe, xf, xg, xh, xz⟩ = true := by unfold Th.valid; rw [Bool.and_eq_true]; exact ⟨HV.out, by simp [hz]⟩
          have HVD := Lib.hid hvd
          clear hvd hz
          refine region2 14 ?_ ?_ ?_
          · kernel_rfl
          · kernel_rfl
          simp only [List.take_succ_cons, List.take_zero, List.drop_succ_cons, List.drop_zero]
          apply chain_eq (D := [(4, none)]) rfl (by kernel_rfl)
          · intro ρ W ⟨p1, p2, p3⟩ hG hF K hK; (try simp [FactsD] at hF); have ⟨hc, hf, hz⟩ := bcell (Gr.tr (Gr.drew _) hG); go_simp; exact hK _ (gives_val)
          apply chain_eq (D := [(63, some 0)]) rfl (by kernel_rfl)
          · intro ρ W ⟨p1, p2, p3⟩ hG hF K hK; (try simp [FactsD] at hF); have ⟨hc, hf, hz⟩ := bcell (Gr.tr (Gr.drew _) hG); go_simp; exact hK _ (gives_val)
          apply chain_eq (D := [(64, some 0)]) rfl (by kernel_rfl)
          · intro ρ W ⟨p1, p2, p3⟩ hG hF K hK; (try simp [FactsD] at hF); have ⟨hc, hf, hz⟩ := bcell (Gr.tr (Gr.drew _) hG); go_simp; exact hK _ (gives_val)
          apply chain_eq (D := [(65, some 0)]) rfl (by kernel_rfl)
          · intro ρ W ⟨p1, p2, p3⟩ hG hF K hK; (try simp [FactsD] at hF); have ⟨hc, hf, hz⟩ := bcell (Gr.tr (Gr.drew _) hG); go_simp; exact hK _ (gives_val)
          refine chain_skip (D := [(4, none), (66, some 0)]) (by kernel_rfl) ?_ ?_
          · intro ρ W hF; (try simp [FactsD] at hF); simp [Lets, *]
          refine chain_skip (D := [(67, some 0), (66, some 1)]) (by kernel_rfl) ?_ ?_
          · intro ρ W hF; (try simp [FactsD] at hF); simp [Lets, *]
          refine chain_skip (D := [(1, none), (66, some 2)]) (by kernel_rfl) ?_ ?_
          · intro ρ W hF; (try simp [FactsD] at hF); simp [Lets, *]
          refine chain_skip (D := [(69, some 0), (66, some 3)]) (by kernel_rfl) ?_ ?_
          · intro ρ W hF; (try simp [FactsD] at hF); simp [Lets, *]
          refine chain_skip (D := [(1, none), (66, some 4)]) (by kernel_rfl) ?_ ?_
          · intro ρ W hF; (try simp [FactsD] at hF); simp [Lets, *]
          refine chain_skip (D := [(71, some 0), (66, some 5)]) (by kernel_rfl) ?_ ?_
          · intro ρ W hF; (try simp [FactsD] at hF); simp [Lets, *]
          refine chain_skip (D := [(70, some 2), (72, some 0), (66, some 6)]) (by kernel_rfl) ?_ ?_
          · intro ρ W hF; (try simp [FactsD] at hF); simp [Lets, *]
          refine chain_skip (D := [(68, some 5), (73, some 0), (66, some 7)]) (by kernel_rfl) ?_ ?_
          · intro ρ W hF; (try simp [FactsD] at hF); simp [Lets, *]
          apply chain_eq (D := [(66, some 8), (74, some 0)]) rfl (by kernel_rfl)
          · intro ρ W ⟨p1, p2, p3⟩ hG hF K hK; (try simp [FactsD] at hF); have ⟨hc, hf, hz⟩ := bcell (Gr.tr (Gr.drew _) hG); go_simp; exact hK _ (gives_val)
          apply chain_eq (D := [(75, some 0)]) rfl (by kernel_rfl)
          · intro ρ W ⟨p1, p2, p3⟩ hG hF K hK; (try simp [FactsD] at hF); have ⟨hc, hf, hz⟩ := bcell (Gr.tr (Gr.drew _) hG); go_simp; exact hK _ (gives_call (require_ok' rfl _ _))
          refine chain_done ?_
          intro vs W hG hV
          clear hV
          simp only [lay, Act.put, List.getElem?_toArray, List.getElem?_cons_succ, List.getElem?_cons_zero, Option.bind_some, List.setIfInBounds_toArray, List.set_cons_succ, List.set_cons_zero]
          generalize vs 0 = v0
          generalize vs 1 = v1
          generalize vs 2 = v2
          generalize vs 3 = v3
          generalize vs 4 = v4
          generalize vs 5 = v5
          generalize vs 6 = v6
          generalize vs 7 = v7
          generalize vs 8 = v8
          generalize vs 9 = v9
          generalize vs 10 = v10
          generalize vs 11 = v11
          generalize vs 12 = v12
          generalize vs 13 = v13
          obtain ⟨hc, hf, hz⟩ := bcell hG
          clear hc hf hz
          go_wp2
          exact ⟨⟨k + 1, by omega, by go_num, HG2.out.tr hG, by rw [HTL.out, List.all_append, HA.out]; simp [HVD.out]⟩, by simp [intOf]; omega⟩
        · have z1 : (xz == 0) = false := by simpa using hz
          by_cases hq : (decide (ne ≤ xz) && decide (xz ≤ fa)) = false
          · have hvd : Th.valid ne fa ⟨xa, xb, xc, xd, xe, xf, xg, xh, xz⟩ = false := by unfold Th.valid; rw [Bool.and_eq_false_iff, Bool.or_eq_false_iff]; exact .inr ⟨by simpa using hz, hq⟩
            have hr := Lib.hid (HX.out.symm.trans (by rw [HN1.out hvd]))
            have HZ := Lib.hid hq
            clear hvd hz hq
            refine region2 14 ?_ ?_ ?_
            · kernel_rfl
            · kernel_rfl
            simp only [List.take_succ_cons, List.take_zero, List.drop_succ_cons, List.drop_zero]
            apply chain_eq (D := [(4, none)]) rfl (by kernel_rfl)
            · intro ρ W ⟨p1, p2, p3⟩ hG hF K hK; (try simp [FactsD] at hF); have ⟨hc, hf, hz⟩ := bcell (Gr.tr (Gr.drew _) hG); go_simp; exact hK _ (gives_val)
            apply chain_eq (D := [(63, some 0)]) rfl (by kernel_rfl)
            · intro ρ W ⟨p1, p2, p3⟩ hG hF K hK; (try simp [FactsD] at hF); have ⟨hc, hf, hz⟩ := bcell (Gr.tr (Gr.drew _) hG); go_simp; exact hK _ (gives_val)
            apply chain_eq (D := [(64, some 0)]) rfl (by kernel_rfl)
            · intro ρ W ⟨p1, p2, p3⟩ hG hF K hK; (try simp [FactsD] at hF); have ⟨hc, hf, hz⟩ := bcell (Gr.tr (Gr.drew _) hG); go_simp; exact hK _ (gives_val)
            apply chain_eq (D := [(65, some 0)]) rfl (by kernel_rfl)
            · intro ρ W ⟨p1, p2, p3⟩ hG hF K hK; (try simp [FactsD] at hF); have ⟨hc, hf, hz⟩ := bcell (Gr.tr (Gr.drew _) hG); go_simp; exact hK _ (gives_val)
            apply chain_leq (D := [(4, none), (66, some 0)]) (by kernel_rfl)
            · intro ρ W hF; (try simp [FactsD] at hF); simp [Lets, *]
            · intro ρ W ⟨p1, p2, p3⟩ hG hF K hK; (try simp [FactsD] at hF); have ⟨hc, hf, hz⟩ := bcell (Gr.tr (Gr.drew _) hG); go_simp; exact hK _ (gives_val)
            apply chain_leq (D := [(67, some 0), (66, some 1)]) (by kernel_rfl)
            · intro ρ W hF; (try simp [FactsD] at hF); simp [Lets, *]
            · intro ρ W ⟨p1, p2, p3⟩ hG hF K hK; (try simp [FactsD] at hF); have ⟨hc, hf, hz⟩ := bcell (Gr.tr (Gr.drew _) hG); go_simp; exact hK _ (gives_val)
            apply chain_leq (D := [(1, none), (66, some 2)]) (by kernel_rfl)
            · intro ρ W hF; (try simp [FactsD] at hF); simp [Lets, *]
            · intro ρ W ⟨p1, p2, p3⟩ hG hF K hK; (try simp [FactsD] at hF); have ⟨hc, hf, hz⟩ := bcell (Gr.tr (Gr.drew _) hG); go_simp; exact hK _ (gives_val)
            apply chain_leq (D := [(69, some 0), (66, some 3)]) (by kernel_rfl)
            · intro ρ W hF; (try simp [FactsD] at hF); simp [Lets, *]
            · intro ρ W ⟨p1, p2, p3⟩ hG hF K hK; (try simp [FactsD] at hF); have ⟨hc, hf, hz⟩ := bcell (Gr.tr (Gr.drew _) hG); go_simp; exact hK _ (gives_val)
            apply chain_leq (D := [(1, none), (66, some 4)]) (by kernel_rfl)
            · intro ρ W hF; (try simp [FactsD] at hF); simp [Lets, *]
            · intro ρ W ⟨p1, p2, p3⟩ hG hF K hK; (try simp [FactsD] at hF); have ⟨hc, hf, hz⟩ := bcell (Gr.tr (Gr.drew _) hG); go_simp; exact hK _ (gives_val)
            apply chain_leq (D := [(71, some 0), (66, some 5)]) (by kernel_rfl)
            · intro ρ W hF; (try simp [FactsD] at hF); simp [Lets, *]
            · intro ρ W ⟨p1, p2, p3⟩ hG hF K hK; (try simp [FactsD] at hF); have ⟨hc, hf, hz⟩ := bcell (Gr.tr (Gr.drew _) hG); go_simp; exact hK _ (gives_val)
            apply chain_leq (D := [(70, some 2), (72, some 0), (66, some 6)]) (by kernel_rfl)
            · intro ρ W hF; (try simp [FactsD] at hF); simp [Lets, *]
            · intro ρ W ⟨p1, p2, p3⟩ hG hF K hK; (try simp [FactsD] at hF); have ⟨hc, hf, hz⟩ := bcell (Gr.tr (Gr.drew _) hG); go_simp; exact hK _ (gives_call (span_any _ _ _))
            apply chain_leq (D := [(68, some 5), (73, some 0), (66, some 7)]) (by kernel_rfl)
            · intro ρ W hF; (try simp [FactsD] at hF); simp [Lets, *]
            · intro ρ W ⟨p1, p2, p3⟩ hG hF K hK; (try simp [FactsD] at hF); have ⟨hc, hf, hz⟩ := bcell (Gr.tr (Gr.drew _) hG); go_simp; exact hK _ (gives_call (inside_any _ _ _ _))
            apply chain_eq (D := [(66, some 8), (74, some 0)]) rfl (by kernel_rfl)
            · intro ρ W ⟨p1, p2, p3⟩ hG hF K hK; (try simp [FactsD] at hF); have ⟨hc, hf, hz⟩ := bcell (Gr.tr (Gr.drew _) hG); go_simp; exact hK _ (gives_val)
            refine chain_any (V := fun _ _ => False) (D := [(75, some 0)]) rfl (by kernel_rfl) (fun _ _ _ h _ => h) ?_ ?_
            · intro ρ W ⟨p1, p2, p3⟩ hG hF K hK; (try simp [FactsD] at hF); have ⟨hc, hf, hz⟩ := bcell (Gr.tr (Gr.drew _) hG); go_simp; exact hK _ (gives_panic (require_no' (by simpa using HZ.out) _ _) (fun W' hg a' ha' => ⟨ha', hr.out.symm, bgr HW.out HW.out.size (((HG2.out.tr (Gr.drew _)).tr hG).tr hg)⟩))
            refine chain_done ?_
            intro vs W hG hV
            exact (hV.1 : False).elim
          · replace hq : (decide (ne ≤ xz) && decide (xz ≤ fa)) = true := by simpa using hq
            have hvd : Th.valid ne fa ⟨xa, xb, xc, xd, xe, xf, xg, xh, xz⟩ = true := by unfold Th.valid; rw [Bool.and_eq_true, Bool.or_eq_true]; exact ⟨HV.out, .inr hq⟩
            have HVD := Lib.hid hvd
            have HZ := Lib.hid hq
            clear hvd hz hq
            refine region2 14 ?_ ?_ ?_
            · kernel_rfl
            · kernel_rfl
            simp only [List.take_succ_cons, List.take_zero, List.drop_succ_cons, List.drop_zero]
            apply chain_eq (D := [(4, none)]) rfl (by kernel_rfl)
            · intro ρ W ⟨p1, p2, p3⟩ hG hF K hK; (try simp [FactsD] at hF); have ⟨hc, hf, hz⟩ := bcell (Gr.tr (Gr.drew _) hG); go_simp; exact hK _ (gives_val)
            apply chain_eq (D := [(63, some 0)]) rfl (by kernel_rfl)
            · intro ρ W ⟨p1, p2, p3⟩ hG hF K hK; (try simp [FactsD] at hF); have ⟨hc, hf, hz⟩ := bcell (Gr.tr (Gr.drew _) hG); go_simp; exact hK _ (gives_val)
            apply chain_eq (D := [(64, some 0)]) rfl (by kernel_rfl)
            · intro ρ W ⟨p1, p2, p3⟩ hG hF K hK; (try simp [FactsD] at hF); have ⟨hc, hf, hz⟩ := bcell (Gr.tr (Gr.drew _) hG); go_simp; exact hK _ (gives_val)
            apply chain_eq (D := [(65, some 0)]) rfl (by kernel_rfl)
            · intro ρ W ⟨p1, p2, p3⟩ hG hF K hK; (try simp [FactsD] at hF); have ⟨hc, hf, hz⟩ := bcell (Gr.tr (Gr.drew _) hG); go_simp; exact hK _ (gives_val)
            apply chain_leq (D := [(4, none), (66, some 0)]) (by kernel_rfl)
            · intro ρ W hF; (try simp [FactsD] at hF); simp [Lets, *]
            · intro ρ W ⟨p1, p2, p3⟩ hG hF K hK; (try simp [FactsD] at hF); have ⟨hc, hf, hz⟩ := bcell (Gr.tr (Gr.drew _) hG); go_simp; exact hK _ (gives_val)
            apply chain_leq (D := [(67, some 0), (66, some 1)]) (by kernel_rfl)
            · intro ρ W hF; (try simp [FactsD] at hF); simp [Lets, *]
            · intro ρ W ⟨p1, p2, p3⟩ hG hF K hK; (try simp [FactsD] at hF); have ⟨hc, hf, hz⟩ := bcell (Gr.tr (Gr.drew _) hG); go_simp; exact hK _ (gives_val)
            apply chain_leq (D := [(1, none), (66, some 2)]) (by kernel_rfl)
            · intro ρ W hF; (try simp [FactsD] at hF); simp [Lets, *]
            · intro ρ W ⟨p1, p2, p3⟩ hG hF K hK; (try simp [FactsD] at hF); have ⟨hc, hf, hz⟩ := bcell (Gr.tr (Gr.drew _) hG); go_simp; exact hK _ (gives_val)
            apply chain_leq (D := [(69, some 0), (66, some 3)]) (by kernel_rfl)
            · intro ρ W hF; (try simp [FactsD] at hF); simp [Lets, *]
            · intro ρ W ⟨p1, p2, p3⟩ hG hF K hK; (try simp [FactsD] at hF); have ⟨hc, hf, hz⟩ := bcell (Gr.tr (Gr.drew _) hG); go_simp; exact hK _ (gives_val)
            apply chain_leq (D := [(1, none), (66, some 4)]) (by kernel_rfl)
            · intro ρ W hF; (try simp [FactsD] at hF); simp [Lets, *]
            · intro ρ W ⟨p1, p2, p3⟩ hG hF K hK; (try simp [FactsD] at hF); have ⟨hc, hf, hz⟩ := bcell (Gr.tr (Gr.drew _) hG); go_simp; exact hK _ (gives_val)
            apply chain_leq (D := [(71, some 0), (66, some 5)]) (by kernel_rfl)
            · intro ρ W hF; (try simp [FactsD] at hF); simp [Lets, *]
            · intro ρ W ⟨p1, p2, p3⟩ hG hF K hK; (try simp [FactsD] at hF); have ⟨hc, hf, hz⟩ := bcell (Gr.tr (Gr.drew _) hG); go_simp; exact hK _ (gives_val)
            apply chain_leq (D := [(70, some 2), (72, some 0), (66, some 6)]) (by kernel_rfl)
            · intro ρ W hF; (try simp [FactsD] at hF); simp [Lets, *]
            · intro ρ W ⟨p1, p2, p3⟩ hG hF K hK; (try simp [FactsD] at hF); have ⟨hc, hf, hz⟩ := bcell (Gr.tr (Gr.drew _) hG); go_simp; exact hK _ (gives_call (span_any _ _ _))
            apply chain_leq (D := [(68, some 5), (73, some 0), (66, some 7)]) (by kernel_rfl)
            · intro ρ W hF; (try simp [FactsD] at hF); simp [Lets, *]
            · intro ρ W ⟨p1, p2, p3⟩ hG hF K hK; (try simp [FactsD] at hF); have ⟨hc, hf, hz⟩ := bcell (Gr.tr (Gr.drew _) hG); go_simp; exact hK _ (gives_call (inside_any _ _ _ _))
            apply chain_eq (D := [(66, some 8), (74, some 0)]) rfl (by kernel_rfl)
            · intro ρ W ⟨p1, p2, p3⟩ hG hF K hK; (try simp [FactsD] at hF); have ⟨hc, hf, hz⟩ := bcell (Gr.tr (Gr.drew _) hG); go_simp; exact hK _ (gives_val)
            apply chain_eq (D := [(75, some 0)]) rfl (by kernel_rfl)
            · intro ρ W ⟨p1, p2, p3⟩ hG hF K hK; (try simp [FactsD] at hF); have ⟨hc, hf, hz⟩ := bcell (Gr.tr (Gr.drew _) hG); go_simp; exact hK _ (gives_call (require_ok' (by simpa using HZ.out) _ _))
            refine chain_done ?_
            intro vs W hG hV
            clear hV
            simp only [lay, Act.put, List.getElem?_toArray, List.getElem?_cons_succ, List.getElem?_cons_zero, Option.bind_some, List.setIfInBounds_toArray, List.set_cons_succ, List.set_cons_zero]
            generalize vs 0 = v0
            generalize vs 1 = v1
            generalize vs 2 = v2
            generalize vs 3 = v3
            generalize vs 4 = v4
            generalize vs 5 = v5
            generalize vs 6 = v6
            generalize vs 7 = v7
            generalize vs 8 = v8
            generalize vs 9 = v9
            generalize vs 10 = v10
            generalize vs 11 = v11
            generalize vs 12 = v12
            generalize vs 13 = v13
            obtain ⟨hc, hf, hz⟩ := bcell hG
            clear hc hf hz
            go_wp2
            exact ⟨⟨k + 1, by omega, by go_num, HG2.out.tr hG, by rw [HTL.out, List.all_append, HA.out]; simp [HVD.out]⟩, by simp [intOf]; omega⟩
    · have hkl : k = l.length := by omega
      have ha' : l.all (Th.valid ne fa) = true := by have := HA.out; rwa [hkl, List.take_length] at this
      have hr := Lib.hid (HX.out.symm.trans (by rw [HYES.out ha']))
      clear ha' ht
      go_wp2
      go_end0
      exact ⟨hr.out.symm, bgr HW.out HW.out.size HG.out⟩
end Go.Proofs.Ytjlaoiimbhlafaa.Pq
