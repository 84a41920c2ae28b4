import Derived.Test.YtofdoadpaedogaaT29
import Derived.Test.YtofdoadpaedogaaT28
namespace Go.Proofs.Ytofdoadpaedogaa
open Go.RowKit

/-- The document's example. -/
def smp : Pr := ⟨9000, 9000, 65, 66, 5, 2000, 100000, [⟨100, 101, 0, 1, -96, -95, 0, 2, 3000⟩, ⟨50, 50, 10, 12, -10, -8, 14, 15, 0⟩, ⟨0, 2, 0, 0, 5, 6, 0, 0, 0⟩, ⟨400, 400, 0, 0, 0, 0, 0, 0, 0⟩, ⟨10, 10, 0, 1, 0, 0, 10, 12, 0⟩, ⟨0, 3, 0, 0, 0, 0, 0, 0, 0⟩]⟩
theorem ThingsAt.box {l : List Th} {w : World} {b : Nat} {T : TypeId} {n : Nat} (h : Box w b (l.flatMap Th.vals) T) (hl : l.length ≤ 1000) (hn : n = l.length) (c : Nat) : ThingsAt l (.slice (some ⟨b, 0, none⟩) n c) w := by
  subst hn
  refine ⟨hl, .inr ⟨b, 0, c, rfl, h.lt, fun i t hi => ?_⟩⟩
  have key : ∀ j x, t.vals[j]? = some x → w.cell? ⟨b, 0 + i * 9 + j, none⟩ = some x := fun j x hx => by
    rw [Nat.zero_add]
    refine h.cell ?_
    have hj : j < 9 := by have := (List.getElem?_eq_some_iff.1 hx).1; simpa [Th.vals] using this
    rw [flat_at Th.vals 9 (fun _ => rfl) l i j t hi hj]; exact hx
  have go : ∀ (xs : List Value) (k : Nat), (∀ j x, xs[j]? = some x → w.cell? ⟨b, k + j, none⟩ = some x) → CellsFrom w b k xs := by
    intro xs
    induction xs with
    | nil => intro _ _; trivial
    | cons x xs ih =>
      intro k h
      refine ⟨by simpa using h 0 x rfl, ih (k + 1) fun j y hy => ?_⟩
      have := h (j + 1) y (by simpa using hy)
      rwa [show k + (j + 1) = k + 1 + j by omega] at this
  exact go t.vals (0 + i * 9) key
def SmpPost (w : World) (e : Ending) (w' : World) : Prop := (∃ v, e = .returned (smp.val v) ∧ ThingsAt smp.l v w') ∧ Below w.heap.size w w'
set_option maxRecDepth 100000 in
set_option maxHeartbeats 2000000 in
theorem sample_any (w : World) : Calls Try.prog 40 #[] w (SmpPost w) := by
  go_enter Try.func40, Try.ntmps40
  go_wp2_with fail
  refine (lthing_any _ _ _ _ _ _ _ _ _).mono ?_
  rintro e w1 ⟨rfl, hb1⟩
  have hg1 : Gr _ _ := hb1
  clear hb1
  go_wp2_with fail
  refine (lthing_any _ _ _ _ _ _ _ _ _).mono ?_
  rintro e w2 ⟨rfl, hb2⟩
  have hg2 := Gr.tr hg1 hb2
  clear hb2 hg1
  go_wp2_with fail
  refine (lthing_any _ _ _ _ _ _ _ _ _).mono ?_
  rintro e w3 ⟨rfl, hb3⟩
  have hg3 := Gr.tr hg2 hb3
  clear hb3 hg2
  go_wp2_with fail
  refine (lthing_any _ _ _ _ _ _ _ _ _).mono ?_
  rintro e w4 ⟨rfl, hb4⟩
  have hg4 := Gr.tr hg3 hb4
  clear hb4 hg3
  go_wp2_with fail
  refine (lthing_any _ _ _ _ _ _ _ _ _).mono ?_
  rintro e w5 ⟨rfl, hb5⟩
  have hg5 := Gr.tr hg4 hb5
  clear hb5 hg4
  go_wp2_with fail
  refine (lthing_any _ _ _ _ _ _ _ _ _).mono ?_
  rintro e w6 ⟨rfl, hb6⟩
  have hg6 := Gr.tr hg5 hb6
  clear hb6 hg5
  obtain ⟨hc6, hf6, hz6⟩ := bcell hg6
  go_wp2_with fail
  refine (lspan_any _ _ _).mono ?_
  rintro e w7 ⟨rfl, hb7⟩
  have hB7 := (Box.fresh w6 _ _).grow hb7
  have hg7 := (hg6.tr (Gr.alloc _ _)).tr hb7
  clear hb7 hc6 hf6 hz6
  go_wp2_with fail
  refine (lspan_any _ _ _).mono ?_
  rintro e w8 ⟨rfl, hb8⟩
  have hB8 := hB7.grow hb8
  have hg8 := hg7.tr hb8
  have hw6 : w.heap.size < w6.heap.size := (bcell hg6).2.2 _ (by simp)
  clear hb8 hB7 hg7 hg6
  have HB8 := Lib.hid hB8
  clear hB8
  obtain ⟨hc8, hf8, hz8⟩ := bcell hg8
  go_wp2
  exact bodyPost_ret (v := .agg #[.int .i64 9000, .int .i64 9000, .int .i64 65, .int .i64 66, .int .i64 5, .int .i64 2000, .int .i64 100000, .slice (some ⟨w6.heap.size, 0, none⟩) 6 6]) (by simp [results, Try.results40, go_sem, hc8]) rfl ⟨⟨.slice (some ⟨w6.heap.size, 0, none⟩) 6 6, rfl, ThingsAt.box (l := smp.l) (T := 47) ((((((((HB8.out.other (by omega) _ _).other (by omega) _ _).other (by omega) _ _).other (by omega) _ _).other (by omega) _ _).other (by omega) _ _).other (by omega) _ _).other (by omega) _ _) (by decide) rfl 6⟩, (((((((((bgr ((Below.refl _ _).alloc (by first | (simp; done) | (simp; omega) | omega) _) (by first | (simp; done) | (simp; omega) | omega) hg8).setCell (by first | (simp; done) | (simp; omega) | omega) _).setCell (by first | (simp; done) | (simp; omega) | omega) _).setCell (by first | (simp; done) | (simp; omega) | omega) _).setCell (by first | (simp; done) | (simp; omega) | omega) _).setCell (by first | (simp; done) | (simp; omega) | omega) _).setCell (by first | (simp; done) | (simp; omega) | omega) _).setCell (by first | (simp; done) | (simp; omega) | omega) _).setCell (by first | (simp; done) | (simp; omega) | omega) _)⟩
end Go.Proofs.Ytofdoadpaedogaa
