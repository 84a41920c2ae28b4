import Derived.Test.YtjlaoiimbhlafaaC39
set_option linter.unusedVariables false
set_option linter.unusedSimpArgs false
namespace Go.Proofs.Ytjlaoiimbhlafaa
open Go.RowKit Go.Shelf

open MW
attribute [local go_sem] Oper.semAt_some run_store_func
def smL : List Mrk := [⟨100, 102, 10, 12⟩, ⟨200, 202, 50, 55⟩, ⟨300, 301, 10, 13⟩]
def smR : List Mrk := [⟨90, 92, 11, 12⟩, ⟨185, 190, 52, 60⟩, ⟨280, 282, 9, 10⟩, ⟨292, 294, 12, 14⟩]
/-- The sample. -/
def smp (bL bR : Nat) : Rr := ⟨smL, some ⟨bL, 0, none⟩, 3, smR, some ⟨bR, 0, none⟩, 4, 5, 20, 1⟩
theorem smL_at {W : World} {b : Nat} (hb : Box W b [.int .i64 100, .int .i64 102, .int .i64 10, .int .i64 12, .int .i64 200, .int .i64 202, .int .i64 50, .int .i64 55, .int .i64 300, .int .i64 301, .int .i64 10, .int .i64 13] 65) : MksAt smL (some ⟨b, 0, none⟩) W := by
  refine ⟨by decide, fun i m hm => ?_⟩
  have hi : i < 3 := (List.getElem?_eq_some_iff.1 hm).1
  have : i = 0 ∨ i = 1 ∨ i = 2 := by omega
  rcases this with rfl | rfl | rfl <;> cases hm
  · exact ⟨b, 0, rfl, hb.lt, hb.cell (i := 0) rfl, hb.cell (i := 1) rfl, hb.cell (i := 2) rfl, hb.cell (i := 3) rfl⟩
  · exact ⟨b, 0, rfl, hb.lt, hb.cell (i := 4) rfl, hb.cell (i := 5) rfl, hb.cell (i := 6) rfl, hb.cell (i := 7) rfl⟩
  · exact ⟨b, 0, rfl, hb.lt, hb.cell (i := 8) rfl, hb.cell (i := 9) rfl, hb.cell (i := 10) rfl, hb.cell (i := 11) rfl⟩
theorem smR_at {W : World} {b : Nat} (hb : Box W b [.int .i64 90, .int .i64 92, .int .i64 11, .int .i64 12, .int .i64 185, .int .i64 190, .int .i64 52, .int .i64 60, .int .i64 280, .int .i64 282, .int .i64 9, .int .i64 10, .int .i64 292, .int .i64 294, .int .i64 12, .int .i64 14] 65) : MksAt smR (some ⟨b, 0, none⟩) W := by
  refine ⟨by decide, fun i m hm => ?_⟩
  have hi : i < 4 := (List.getElem?_eq_some_iff.1 hm).1
  have : i = 0 ∨ i = 1 ∨ i = 2 ∨ i = 3 := by omega
  rcases this with rfl | rfl | rfl | rfl <;> cases hm
  · exact ⟨b, 0, rfl, hb.lt, hb.cell (i := 0) rfl, hb.cell (i := 1) rfl, hb.cell (i := 2) rfl, hb.cell (i := 3) rfl⟩
  · exact ⟨b, 0, rfl, hb.lt, hb.cell (i := 4) rfl, hb.cell (i := 5) rfl, hb.cell (i := 6) rfl, hb.cell (i := 7) rfl⟩
  · exact ⟨b, 0, rfl, hb.lt, hb.cell (i := 8) rfl, hb.cell (i := 9) rfl, hb.cell (i := 10) rfl, hb.cell (i := 11) rfl⟩
  · exact ⟨b, 0, rfl, hb.lt, hb.cell (i := 12) rfl, hb.cell (i := 13) rfl, hb.cell (i := 14) rfl, hb.cell (i := 15) rfl⟩
def SmPost (w : World) (e : Ending) (w' : World) : Prop := (∃ bL bR, e = .returned (smp bL bR).val ∧ MksAt smL (some ⟨bL, 0, none⟩) w' ∧ MksAt smR (some ⟨bR, 0, none⟩) w') ∧ Below w.heap.size w w'
set_option maxRecDepth 100000 in
set_option maxHeartbeats 4000000 in
theorem sample_any (w : World) : Calls Try.prog 34 #[] w (SmPost w) := by
  have HM := Lib.hid (fun a b c d W => mark75_any a b c d W)
  have HS := Lib.hid (fun W => span35_any 5 20 W)
  go_enter Try.func34, Try.ntmps34
  obtain ⟨w0, hw0⟩ : ∃ w0, w0 = w.alloc (Obj.cells #[.slice none 0 0, .slice none 0 0, .int .i64 0, .int .i64 0, .int .i64 0] 26) := ⟨_, rfl⟩
  have HB0 := Lib.hid (show Box w0 w.heap.size [.slice none 0 0, .slice none 0 0, .int .i64 0, .int .i64 0, .int .i64 0] 26 by rw [hw0]; exact Box.fresh w [.slice none 0 0, .slice none 0 0, .int .i64 0, .int .i64 0, .int .i64 0] 26)
  have HA0 := Lib.hid (Gr.same w0)
  have hs0 : w0.heap.size = w.heap.size + 1 := by rw [hw0]; simp
  go_wp2_with (first | (go_at_call 75; rw [← hw0]; refine (HM.out _ _ _ _ _).mono ?_; rintro e w1 ⟨rfl, hb⟩; have HA1 := Lib.hid (show Gr w0 w1 from Gr.tr HA0.out hb); clear HA0 hb) | (go_at_call 75; refine (HM.out _ _ _ _ _).mono ?_; rintro e w2 ⟨rfl, hb⟩; have HA2 := Lib.hid (show Gr w0 w2 from Gr.tr HA1.out hb); clear HA1 hb) | (go_at_call 75; refine (HM.out _ _ _ _ _).mono ?_; rintro e w3 ⟨rfl, hb⟩; have HA3 := Lib.hid (show Gr w0 w3 from Gr.tr HA2.out hb); clear HA2 hb) | (go_at_call 75; refine (HM.out _ _ _ _ _).mono ?_; rintro e w4 ⟨rfl, hb⟩; have HA4 := Lib.hid (show Gr w0 w4 from Gr.tr (HA3.out.tr (Gr.alloc _ _)) hb); have HL4 := Lib.hid ((Box.fresh w3 [.int .i64 100, .int .i64 102, .int .i64 10, .int .i64 12, .int .i64 200, .int .i64 202, .int .i64 50, .int .i64 55, .int .i64 300, .int .i64 301, .int .i64 10, .int .i64 13] 65).grow hb); have l4 : w0.heap.size ≤ w3.heap.size := HA3.out.size; clear HA3 hb) | (go_at_call 75; refine (HM.out _ _ _ _ _).mono ?_; rintro e w5 ⟨rfl, hb⟩; have HA5 := Lib.hid (show Gr w0 w5 from Gr.tr HA4.out hb); have HL5 := Lib.hid (HL4.out.grow hb); clear HA4 hb HL4) | (go_at_call 75; refine (HM.out _ _ _ _ _).mono ?_; rintro e w6 ⟨rfl, hb⟩; have HA6 := Lib.hid (show Gr w0 w6 from Gr.tr HA5.out hb); have HL6 := Lib.hid (HL5.out.grow hb); clear HA5 hb HL5) | (go_at_call 75; refine (HM.out _ _ _ _ _).mono ?_; rintro e w7 ⟨rfl, hb⟩; have HA7 := Lib.hid (show Gr w0 w7 from Gr.tr HA6.out hb); have HL7 := Lib.hid (HL6.out.grow hb); clear HA6 hb HL6) | (go_at_call 35; refine (HS.out _).mono ?_; rintro e w8 ⟨rfl, hb⟩; have HA8 := Lib.hid (show Gr w0 w8 from Gr.tr (HA7.out.tr (Gr.alloc _ _)) hb); have HL8 := Lib.hid (HL7.out.grow ((Gr.alloc _ _).tr hb)); have HR8 := Lib.hid ((Box.fresh w7 [.int .i64 90, .int .i64 92, .int .i64 11, .int .i64 12, .int .i64 185, .int .i64 190, .int .i64 52, .int .i64 60, .int .i64 280, .int .i64 282, .int .i64 9, .int .i64 10, .int .i64 292, .int .i64 294, .int .i64 12, .int .i64 14] 65).grow hb); have l8 : w0.heap.size ≤ w7.heap.size := HA7.out.size; have HB8 := Lib.hid (HB0.out.grow HA8.out); have qc0 := HB8.out.cell (i := 0) rfl; have qf0 := HB8.out.free (i := 0); have qc1 := HB8.out.cell (i := 1) rfl; have qf1 := HB8.out.free (i := 1); have qc2 := HB8.out.cell (i := 2) rfl; have qf2 := HB8.out.free (i := 2); have qc3 := HB8.out.cell (i := 3) rfl; have qf3 := HB8.out.free (i := 3); have qc4 := HB8.out.cell (i := 4) rfl; have qf4 := HB8.out.free (i := 4); have ql := HB8.out.lt; clear HA7 hb HL7))
  have HB9 := (((((HB8.out.put 0 (.slice (some ⟨w3.heap.size, 0, none⟩) 3 3)).put 1 (.slice (some ⟨w7.heap.size, 0, none⟩) 4 4)).put 2 (.int .i64 5)).put 3 (.int .i64 20)).put 4 (.int .i64 1))
  have HO9 := ((((((Only.of HB8.out.lt (Gr.same w8)).tr (Only.set w8 (b := w.heap.size) 0 (.slice (some ⟨w3.heap.size, 0, none⟩) 3 3))).tr (Only.set (w8.setCell ⟨w.heap.size, 0, none⟩ (.slice (some ⟨w3.heap.size, 0, none⟩) 3 3)) (b := w.heap.size) 1 (.slice (some ⟨w7.heap.size, 0, none⟩) 4 4))).tr (Only.set ((w8.setCell ⟨w.heap.size, 0, none⟩ (.slice (some ⟨w3.heap.size, 0, none⟩) 3 3)).setCell ⟨w.heap.size, 1, none⟩ (.slice (some ⟨w7.heap.size, 0, none⟩) 4 4)) (b := w.heap.size) 2 (.int .i64 5))).tr (Only.set (((w8.setCell ⟨w.heap.size, 0, none⟩ (.slice (some ⟨w3.heap.size, 0, none⟩) 3 3)).setCell ⟨w.heap.size, 1, none⟩ (.slice (some ⟨w7.heap.size, 0, none⟩) 4 4)).setCell ⟨w.heap.size, 2, none⟩ (.int .i64 5)) (b := w.heap.size) 3 (.int .i64 20))).tr (Only.set ((((w8.setCell ⟨w.heap.size, 0, none⟩ (.slice (some ⟨w3.heap.size, 0, none⟩) 3 3)).setCell ⟨w.heap.size, 1, none⟩ (.slice (some ⟨w7.heap.size, 0, none⟩) 4 4)).setCell ⟨w.heap.size, 2, none⟩ (.int .i64 5)).setCell ⟨w.heap.size, 3, none⟩ (.int .i64 20)) (b := w.heap.size) 4 (.int .i64 1)))
  have HBW : Below w.heap.size w (((((w8.setCell ⟨w.heap.size, 0, none⟩ (.slice (some ⟨w3.heap.size, 0, none⟩) 3 3)).setCell ⟨w.heap.size, 1, none⟩ (.slice (some ⟨w7.heap.size, 0, none⟩) 4 4)).setCell ⟨w.heap.size, 2, none⟩ (.int .i64 5)).setCell ⟨w.heap.size, 3, none⟩ (.int .i64 20)).setCell ⟨w.heap.size, 4, none⟩ (.int .i64 1)) := ((((((show Below w.heap.size w w8 from bgr (by rw [hw0]; exact ((Below.refl _ _).alloc (by first | (simp; done) | (simp; omega) | omega) _)) (by omega) HA8.out).setCell (p := ⟨w.heap.size, 0, none⟩) (Nat.le_refl _) _).setCell (p := ⟨w.heap.size, 1, none⟩) (Nat.le_refl _) _).setCell (p := ⟨w.heap.size, 2, none⟩) (Nat.le_refl _) _).setCell (p := ⟨w.heap.size, 3, none⟩) (Nat.le_refl _) _).setCell (p := ⟨w.heap.size, 4, none⟩) (Nat.le_refl _) _)
  generalize (((((w8.setCell ⟨w.heap.size, 0, none⟩ (.slice (some ⟨w3.heap.size, 0, none⟩) 3 3)).setCell ⟨w.heap.size, 1, none⟩ (.slice (some ⟨w7.heap.size, 0, none⟩) 4 4)).setCell ⟨w.heap.size, 2, none⟩ (.int .i64 5)).setCell ⟨w.heap.size, 3, none⟩ (.int .i64 20)).setCell ⟨w.heap.size, 4, none⟩ (.int .i64 1)) = w9 at *
  have y0 := HB9.cell (i := 0) rfl
  have y1 := HB9.cell (i := 1) rfl
  have y2 := HB9.cell (i := 2) rfl
  have y3 := HB9.cell (i := 3) rfl
  have y4 := HB9.cell (i := 4) rfl
  refine bodyPost_ret (v := (smp w3.heap.size w7.heap.size).val) (by simp [results, Try.f34, go_sem, y0, y1, y2, y3, y4, smp, Rr.val, smL, smR]) rfl ⟨⟨_, _, rfl, smL_at (HO9.box HL8.out (by omega)), smR_at (HO9.box HR8.out (by omega))⟩, HBW⟩

end Go.Proofs.Ytjlaoiimbhlafaa
