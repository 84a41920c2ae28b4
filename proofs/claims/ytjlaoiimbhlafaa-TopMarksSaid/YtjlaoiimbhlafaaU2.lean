import Derived.Test.YtjlaoiimbhlafaaL1
set_option linter.unusedVariables false
set_option linter.unusedSimpArgs false
namespace Go.Proofs.Ytjlaoiimbhlafaa
open Go.RowKit Go.Shelf

open MW
attribute [local go_sem] Oper.semAt_some run_store_func
attribute [local go_sem ↓] Go.wp_at_zero Go.wp_at_succ
set_option maxHeartbeats 1000000 in
theorem span47_any (a b : Int) (w : World) :
    Calls Try.prog 47 #[.int .i64 a, .int .i64 b] w fun e w' => e = .returned (.agg #[.int .i64 a, .int .i64 b]) ∧ Below w.heap.size w w' := by
  go_enter Try.func47, Try.ntmps47
  go_wp2
  have HB := Box.fresh w [.int .i64 a, .int .i64 b] 24
  have y0 := HB.cell (i := 0) rfl
  have y1 := HB.cell (i := 1) rfl
  exact bodyPost_ret (v := .agg #[.int .i64 a, .int .i64 b]) (by simp [results, Try.f47, go_sem, y0, y1]) rfl ⟨rfl, (Below.refl _ _).alloc (Nat.le_refl _) _⟩
set_option maxHeartbeats 2000000 in
theorem mark109_any (a b c d : Int) (w : World) :
    Calls Try.prog 109 #[.int .i64 a, .int .i64 b, .int .i64 c, .int .i64 d] w fun e w' => e = .returned (.agg #[.int .i64 a, .int .i64 b, .int .i64 c, .int .i64 d]) ∧ Below w.heap.size w w' := by
  have HS := Lib.hid (fun W => span47_any a b W)
  have HS2 := Lib.hid (fun W => span47_any c d W)
  have HB0 := Lib.hid (Box.fresh w [.int .i64 0, .int .i64 0, .int .i64 0, .int .i64 0] 65)
  go_enter Try.func109, Try.ntmps109
  go_wp2_with (first | (go_at_call 47; refine (HS.out _).mono ?_; rintro e w1 ⟨rfl, hb1⟩; have HG1 := Lib.hid (show Gr _ w1 from hb1); have HB1 := Lib.hid (HB0.out.grow hb1); clear hb1 HB0 HS) | (go_at_call 47; refine (HS2.out _).mono ?_; rintro e w2 ⟨rfl, hb2⟩; have HG2 := Lib.hid (show Gr _ w2 from hb2); have HB2 := Lib.hid (HB1.out.grow hb2); have qc0 := HB2.out.cell (i := 0) rfl; have qf0 := HB2.out.free (i := 0); have qc1 := HB2.out.cell (i := 1) rfl; have qf1 := HB2.out.free (i := 1); have qc2 := HB2.out.cell (i := 2) rfl; have qf2 := HB2.out.free (i := 2); have qc3 := HB2.out.cell (i := 3) rfl; have qf3 := HB2.out.free (i := 3); have ql := HB2.out.lt; clear hb2 HB1))
  have HB3 := (((HB2.out.put 0 (.int .i64 a)).put 1 (.int .i64 b)).put 2 (.int .i64 c)).put 3 (.int .i64 d)
  have y0 := HB3.cell (i := 0) rfl
  have y1 := HB3.cell (i := 1) rfl
  have y2 := HB3.cell (i := 2) rfl
  have y3 := HB3.cell (i := 3) rfl
  exact bodyPost_ret (v := .agg #[.int .i64 a, .int .i64 b, .int .i64 c, .int .i64 d]) (by simp [results, Try.f109, go_sem, y0, y1, y2, y3]) rfl ⟨rfl, ((((bgr ((Below.refl _ _).alloc (by first | (simp; done) | (simp; omega) | omega) _) (by first | (simp; done) | (simp; omega) | omega) (Gr.tr HG1.out HG2.out)).setCell (by first | (simp; done) | (simp; omega) | omega) _).setCell (by first | (simp; done) | (simp; omega) | omega) _).setCell (by first | (simp; done) | (simp; omega) | omega) _).setCell (by first | (simp; done) | (simp; omega) | omega) _⟩

set_option maxRecDepth 100000 in
set_option maxHeartbeats 4000000 in
theorem rows02_any (w : World) : Calls Try.prog 81 #[] w (SmPost w) := by
  have HM := Lib.hid (fun a b c d W => mark109_any a b c d W)
  have HS := Lib.hid (fun W => span47_any 5 20 W)
  go_enter Try.func81, Try.ntmps81
  obtain ⟨w0, hw0⟩ : ∃ w0, w0 = w.alloc (Obj.cells #[.slice none 0 0, .slice none 0 0, .int .i64 0, .int .i64 0, .int .i64 0] 26) := ⟨_, rfl⟩
  have HB0 := Lib.hid (show Box w0 w.heap.size [.slice none 0 0, .slice none 0 0, .int .i64 0, .int .i64 0, .int .i64 0] 26 by rw [hw0]; exact Box.fresh w [.slice none 0 0, .slice none 0 0, .int .i64 0, .int .i64 0, .int .i64 0] 26)
  have HA0 := Lib.hid (Gr.same w0)
  have hs0 : w0.heap.size = w.heap.size + 1 := by rw [hw0]; simp
  go_wp2_with fail
  rw [← hw0]
  refine (HM.out _ _ _ _ _).mono ?_
  rintro e w1 ⟨rfl, hb⟩
  have HA1 := Lib.hid (show Gr w0 w1 from Gr.tr HA0.out hb)
  clear HA0 hb
  dsimp only
  go_wp2_with fail
  refine (HM.out _ _ _ _ _).mono ?_
  rintro e w2 ⟨rfl, hb⟩
  have HA2 := Lib.hid (show Gr w0 w2 from Gr.tr HA1.out hb)
  clear HA1 hb
  dsimp only
  go_wp2_with fail
  refine (HM.out _ _ _ _ _).mono ?_
  rintro e w3 ⟨rfl, hb⟩
  have HA3 := Lib.hid (show Gr w0 w3 from Gr.tr HA2.out hb)
  clear HA2 hb
  dsimp only
  go_wp2_with fail
  refine (HM.out _ _ _ _ _).mono ?_
  rintro e w4 ⟨rfl, hb⟩
  have HA4 := Lib.hid (show Gr w0 w4 from Gr.tr (HA3.out.tr (Gr.alloc _ _)) hb)
  have HL4 := Lib.hid ((Box.fresh w3 [.int .i64 100, .int .i64 102, .int .i64 10, .int .i64 12, .int .i64 200, .int .i64 202, .int .i64 50, .int .i64 55, .int .i64 300, .int .i64 301, .int .i64 10, .int .i64 13] 65).grow hb)
  have l4 : w0.heap.size ≤ w3.heap.size := HA3.out.size
  clear HA3 hb
  dsimp only
  go_wp2_with fail
  refine (HM.out _ _ _ _ _).mono ?_
  rintro e w5 ⟨rfl, hb⟩
  have HA5 := Lib.hid (show Gr w0 w5 from Gr.tr HA4.out hb)
  have HL5 := Lib.hid (HL4.out.grow hb)
  clear HA4 hb HL4
  dsimp only
  go_wp2_with fail
  refine (HM.out _ _ _ _ _).mono ?_
  rintro e w6 ⟨rfl, hb⟩
  have HA6 := Lib.hid (show Gr w0 w6 from Gr.tr HA5.out hb)
  have HL6 := Lib.hid (HL5.out.grow hb)
  clear HA5 hb HL5
  dsimp only
  go_wp2_with fail
  refine (HM.out _ _ _ _ _).mono ?_
  rintro e w7 ⟨rfl, hb⟩
  have HA7 := Lib.hid (show Gr w0 w7 from Gr.tr HA6.out hb)
  have HL7 := Lib.hid (HL6.out.grow hb)
  clear HA6 hb HL6
  dsimp only
  go_wp2_with (go_at_call 47; refine (HS.out _).mono ?_; rintro e w8 ⟨rfl, hb⟩; have HA8 := Lib.hid (show Gr w0 w8 from Gr.tr (HA7.out.tr (Gr.alloc _ _)) hb); have HL8 := Lib.hid (HL7.out.grow ((Gr.alloc _ _).tr hb)); have HR8 := Lib.hid ((Box.fresh w7 [.int .i64 90, .int .i64 92, .int .i64 11, .int .i64 12, .int .i64 185, .int .i64 190, .int .i64 52, .int .i64 60, .int .i64 280, .int .i64 282, .int .i64 9, .int .i64 10, .int .i64 292, .int .i64 294, .int .i64 12, .int .i64 14] 65).grow hb); have l8 : w0.heap.size ≤ w7.heap.size := HA7.out.size; have HB8 := Lib.hid (HB0.out.grow HA8.out); have qc0 := HB8.out.cell (i := 0) rfl; have qf0 := HB8.out.free (i := 0); have qc1 := HB8.out.cell (i := 1) rfl; have qf1 := HB8.out.free (i := 1); have qc2 := HB8.out.cell (i := 2) rfl; have qf2 := HB8.out.free (i := 2); have qc3 := HB8.out.cell (i := 3) rfl; have qf3 := HB8.out.free (i := 3); have qc4 := HB8.out.cell (i := 4) rfl; have qf4 := HB8.out.free (i := 4); have ql := HB8.out.lt; clear HA7 hb HL7)
  have HB9 := (((((HB8.out.put 0 (.slice (some ⟨w3.heap.size, 0, none⟩) 3 3)).put 1 (.slice (some ⟨w7.heap.size, 0, none⟩) 4 4)).put 2 (.int .i64 5)).put 3 (.int .i64 20)).put 4 (.int .i64 1))
  have HO9 := ((((((Only.of HB8.out.lt (Gr.same w8)).tr (Only.set w8 (b := w.heap.size) 0 (.slice (some ⟨w3.heap.size, 0, none⟩) 3 3))).tr (Only.set (w8.setCell ⟨w.heap.size, 0, none⟩ (.slice (some ⟨w3.heap.size, 0, none⟩) 3 3)) (b := w.heap.size) 1 (.slice (some ⟨w7.heap.size, 0, none⟩) 4 4))).tr (Only.set ((w8.setCell ⟨w.heap.size, 0, none⟩ (.slice (some ⟨w3.heap.size, 0, none⟩) 3 3)).setCell ⟨w.heap.size, 1, none⟩ (.slice (some ⟨w7.heap.size, 0, none⟩) 4 4)) (b := w.heap.size) 2 (.int .i64 5))).tr (Only.set (((w8.setCell ⟨w.heap.size, 0, none⟩ (.slice (some ⟨w3.heap.size, 0, none⟩) 3 3)).setCell ⟨w.heap.size, 1, none⟩ (.slice (some ⟨w7.heap.size, 0, none⟩) 4 4)).setCell ⟨w.heap.size, 2, none⟩ (.int .i64 5)) (b := w.heap.size) 3 (.int .i64 20))).tr (Only.set ((((w8.setCell ⟨w.heap.size, 0, none⟩ (.slice (some ⟨w3.heap.size, 0, none⟩) 3 3)).setCell ⟨w.heap.size, 1, none⟩ (.slice (some ⟨w7.heap.size, 0, none⟩) 4 4)).setCell ⟨w.heap.size, 2, none⟩ (.int .i64 5)).setCell ⟨w.heap.size, 3, none⟩ (.int .i64 20)) (b := w.heap.size) 4 (.int .i64 1)))
  have HBW : Below w.heap.size w (((((w8.setCell ⟨w.heap.size, 0, none⟩ (.slice (some ⟨w3.heap.size, 0, none⟩) 3 3)).setCell ⟨w.heap.size, 1, none⟩ (.slice (some ⟨w7.heap.size, 0, none⟩) 4 4)).setCell ⟨w.heap.size, 2, none⟩ (.int .i64 5)).setCell ⟨w.heap.size, 3, none⟩ (.int .i64 20)).setCell ⟨w.heap.size, 4, none⟩ (.int .i64 1)) := ((((((show Below w.heap.size w w8 from bgr (by rw [hw0]; exact ((Below.refl _ _).alloc (by first | (simp; done) | (simp; omega) | omega) _)) (by omega) HA8.out).setCell (p := ⟨w.heap.size, 0, none⟩) (Nat.le_refl _) _).setCell (p := ⟨w.heap.size, 1, none⟩) (Nat.le_refl _) _).setCell (p := ⟨w.heap.size, 2, none⟩) (Nat.le_refl _) _).setCell (p := ⟨w.heap.size, 3, none⟩) (Nat.le_refl _) _).setCell (p := ⟨w.heap.size, 4, none⟩) (Nat.le_refl _) _)
  generalize (((((w8.setCell ⟨w.heap.size, 0, none⟩ (.slice (some ⟨w3.heap.size, 0, none⟩) 3 3)).setCell ⟨w.heap.size, 1, none⟩ (.slice (some ⟨w7.heap.size, 0, none⟩) 4 4)).setCell ⟨w.heap.size, 2, none⟩ (.int .i64 5)).setCell ⟨w.heap.size, 3, none⟩ (.int .i64 20)).setCell ⟨w.heap.size, 4, none⟩ (.int .i64 1)) = w9 at *
  have y0 := HB9.cell (i := 0) rfl
  have y1 := HB9.cell (i := 1) rfl
  have y2 := HB9.cell (i := 2) rfl
  have y3 := HB9.cell (i := 3) rfl
  have y4 := HB9.cell (i := 4) rfl
  refine bodyPost_ret (v := (smp w3.heap.size w7.heap.size).val) (by simp [results, Try.f81, go_sem, y0, y1, y2, y3, y4, smp, Rr.val, smL, smR]) rfl ⟨⟨_, _, rfl, smL_at (HO9.box HL8.out (by omega)), smR_at (HO9.box HR8.out (by omega))⟩, HBW⟩

set_option maxRecDepth 100000 in
set_option maxHeartbeats 8000000 in
theorem pair02_any (w : World) : Calls Try.prog 44 #[] w fun e w' => e = .returned (.agg #[.int .i64 9000, .int .i64 9000, .int .i64 65, .int .i64 66, .int .i64 5, .int .i64 2000, .int .i64 100000, .slice none 0 0]) ∧ Below w.heap.size w w' := by
  have HS1 := Lib.hid (fun W => span47_any 9000 9000 W)
  have HS2 := Lib.hid (fun W => span47_any 65 66 W)
  have HB0 := Lib.hid (Box.fresh w [.int .i64 0, .int .i64 0, .int .i64 0, .int .i64 0, .int .i64 0, .int .i64 0, .int .i64 0, .slice none 0 0] 71)
  go_enter Try.func44, Try.ntmps44
  go_wp2_with (first | (go_at_call 47; refine (HS1.out _).mono ?_; rintro e w1 ⟨rfl, hb1⟩; have HG1 := Lib.hid (show Gr _ w1 from hb1); have HB1 := Lib.hid (HB0.out.grow hb1); clear hb1 HB0 HS1) | (go_at_call 47; refine (HS2.out _).mono ?_; rintro e w2 ⟨rfl, hb2⟩; have HG2 := Lib.hid (show Gr _ w2 from hb2); have HB2 := Lib.hid (HB1.out.grow hb2); have ql := HB2.out.lt; have qc0 := HB2.out.cell (i := 0) rfl; have qf0 := HB2.out.free (i := 0); have qc1 := HB2.out.cell (i := 1) rfl; have qf1 := HB2.out.free (i := 1); have qc2 := HB2.out.cell (i := 2) rfl; have qf2 := HB2.out.free (i := 2); have qc3 := HB2.out.cell (i := 3) rfl; have qf3 := HB2.out.free (i := 3); have qc4 := HB2.out.cell (i := 4) rfl; have qf4 := HB2.out.free (i := 4); have qc5 := HB2.out.cell (i := 5) rfl; have qf5 := HB2.out.free (i := 5); have qc6 := HB2.out.cell (i := 6) rfl; have qf6 := HB2.out.free (i := 6); have qc7 := HB2.out.cell (i := 7) rfl; have qf7 := HB2.out.free (i := 7); clear hb2 HB1))
  have HB3 := ((((((((HB2.out.put 0 (.int .i64 9000)).put 1 (.int .i64 9000)).put 2 (.int .i64 65)).put 3 (.int .i64 66)).put 4 (.int .i64 5)).put 5 (.int .i64 2000)).put 6 (.int .i64 100000)).put 7 (.slice none 0 0))
  have HBW : Below w.heap.size w ((((((((w2.setCell ⟨w.heap.size, 0, none⟩ (.int .i64 9000)).setCell ⟨w.heap.size, 1, none⟩ (.int .i64 9000)).setCell ⟨w.heap.size, 2, none⟩ (.int .i64 65)).setCell ⟨w.heap.size, 3, none⟩ (.int .i64 66)).setCell ⟨w.heap.size, 4, none⟩ (.int .i64 5)).setCell ⟨w.heap.size, 5, none⟩ (.int .i64 2000)).setCell ⟨w.heap.size, 6, none⟩ (.int .i64 100000)).setCell ⟨w.heap.size, 7, none⟩ (.slice none 0 0)) := (((((((((show Below w.heap.size w w2 from bgr ((Below.refl _ _).alloc (by first | (simp; done) | (simp; omega) | omega) _) (by first | (simp; done) | (simp; omega) | omega) (Gr.tr HG1.out HG2.out)).setCell (p := ⟨w.heap.size, 0, none⟩) (Nat.le_refl _) _).setCell (p := ⟨w.heap.size, 1, none⟩) (Nat.le_refl _) _).setCell (p := ⟨w.heap.size, 2, none⟩) (Nat.le_refl _) _).setCell (p := ⟨w.heap.size, 3, none⟩) (Nat.le_refl _) _).setCell (p := ⟨w.heap.size, 4, none⟩) (Nat.le_refl _) _).setCell (p := ⟨w.heap.size, 5, none⟩) (Nat.le_refl _) _).setCell (p := ⟨w.heap.size, 6, none⟩) (Nat.le_refl _) _).setCell (p := ⟨w.heap.size, 7, none⟩) (Nat.le_refl _) _)
  generalize ((((((((w2.setCell ⟨w.heap.size, 0, none⟩ (.int .i64 9000)).setCell ⟨w.heap.size, 1, none⟩ (.int .i64 9000)).setCell ⟨w.heap.size, 2, none⟩ (.int .i64 65)).setCell ⟨w.heap.size, 3, none⟩ (.int .i64 66)).setCell ⟨w.heap.size, 4, none⟩ (.int .i64 5)).setCell ⟨w.heap.size, 5, none⟩ (.int .i64 2000)).setCell ⟨w.heap.size, 6, none⟩ (.int .i64 100000)).setCell ⟨w.heap.size, 7, none⟩ (.slice none 0 0)) = w9 at *
  have y0 := HB3.cell (i := 0) rfl
  have y1 := HB3.cell (i := 1) rfl
  have y2 := HB3.cell (i := 2) rfl
  have y3 := HB3.cell (i := 3) rfl
  have y4 := HB3.cell (i := 4) rfl
  have y5 := HB3.cell (i := 5) rfl
  have y6 := HB3.cell (i := 6) rfl
  have y7 := HB3.cell (i := 7) rfl
  refine bodyPost_ret (v := .agg #[.int .i64 9000, .int .i64 9000, .int .i64 65, .int .i64 66, .int .i64 5, .int .i64 2000, .int .i64 100000, .slice none 0 0]) (by simp [results, Try.f44, go_sem, y0, y1, y2, y3, y4, y5, y6, y7]) rfl ⟨rfl, HBW⟩

end Go.Proofs.Ytjlaoiimbhlafaa
