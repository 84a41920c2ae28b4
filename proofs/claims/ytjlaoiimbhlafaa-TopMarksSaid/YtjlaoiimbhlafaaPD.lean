import Derived.Test.YtjlaoiimbhlafaaPC
import Derived.Laws.StructEq
import Derived.ChangeKeysEq
set_option linter.unusedVariables false
set_option linter.unusedSimpArgs false
section
namespace Go.Proofs.Ytjlaoiimbhlafaa
open Go.RowKit Go.Shelf

open MW
attribute [local go_sem] Oper.semAt_some run_store_func
set_option maxHeartbeats 1000000 in
theorem span35_any (a b : Int) (w : World) :
    Calls Try.prog 35 #[.int .i64 a, .int .i64 b] w fun e w' => e = .returned (.agg #[.int .i64 a, .int .i64 b]) ∧ Below w.heap.size w w' := by
  go_enter Try.func35, Try.ntmps35
  go_wp2
  have HB := Box.fresh w [.int .i64 a, .int .i64 b] 24
  have y0 := HB.cell (i := 0) rfl
  have y1 := HB.cell (i := 1) rfl
  exact bodyPost_ret (v := .agg #[.int .i64 a, .int .i64 b]) (by simp [results, Try.f35, go_sem, y0, y1]) rfl ⟨rfl, (Below.refl _ _).alloc (Nat.le_refl _) _⟩
set_option maxHeartbeats 2000000 in
theorem mark75_any (a b c d : Int) (w : World) :
    Calls Try.prog 75 #[.int .i64 a, .int .i64 b, .int .i64 c, .int .i64 d] w fun e w' => e = .returned (.agg #[.int .i64 a, .int .i64 b, .int .i64 c, .int .i64 d]) ∧ Below w.heap.size w w' := by
  have HS := Lib.hid (fun W => span35_any a b W)
  have HS2 := Lib.hid (fun W => span35_any c d W)
  have HB0 := Lib.hid (Box.fresh w [.int .i64 0, .int .i64 0, .int .i64 0, .int .i64 0] 65)
  go_enter Try.func75, Try.ntmps75
  go_wp2_with (first | (go_at_call 35; refine (HS.out _).mono ?_; rintro e w1 ⟨rfl, hb1⟩; have HG1 := Lib.hid (show Gr _ w1 from hb1); have HB1 := Lib.hid (HB0.out.grow hb1); clear hb1 HB0 HS) | (go_at_call 35; refine (HS2.out _).mono ?_; rintro e w2 ⟨rfl, hb2⟩; have HG2 := Lib.hid (show Gr _ w2 from hb2); have HB2 := Lib.hid (HB1.out.grow hb2); have qc0 := HB2.out.cell (i := 0) rfl; have qf0 := HB2.out.free (i := 0); have qc1 := HB2.out.cell (i := 1) rfl; have qf1 := HB2.out.free (i := 1); have qc2 := HB2.out.cell (i := 2) rfl; have qf2 := HB2.out.free (i := 2); have qc3 := HB2.out.cell (i := 3) rfl; have qf3 := HB2.out.free (i := 3); have ql := HB2.out.lt; clear hb2 HB1))
  have HB3 := (((HB2.out.put 0 (.int .i64 a)).put 1 (.int .i64 b)).put 2 (.int .i64 c)).put 3 (.int .i64 d)
  have y0 := HB3.cell (i := 0) rfl
  have y1 := HB3.cell (i := 1) rfl
  have y2 := HB3.cell (i := 2) rfl
  have y3 := HB3.cell (i := 3) rfl
  exact bodyPost_ret (v := .agg #[.int .i64 a, .int .i64 b, .int .i64 c, .int .i64 d]) (by simp [results, Try.f75, go_sem, y0, y1, y2, y3]) rfl ⟨rfl, ((((bgr ((Below.refl _ _).alloc (by first | (simp; done) | (simp; omega) | omega) _) (by first | (simp; done) | (simp; omega) | omega) (Gr.tr HG1.out HG2.out)).setCell (by first | (simp; done) | (simp; omega) | omega) _).setCell (by first | (simp; done) | (simp; omega) | omega) _).setCell (by first | (simp; done) | (simp; omega) | omega) _).setCell (by first | (simp; done) | (simp; omega) | omega) _⟩

end Go.Proofs.Ytjlaoiimbhlafaa
end
section
namespace Go.Proofs.Ytjlaoiimbhlafaa
open Go.RowKit Go.Shelf

open MW
attribute [local go_sem] Oper.semAt_some run_store_func
def smL : List Mrk := [⟨100, 102, 10, 12⟩, ⟨200, 202, 50, 55⟩, ⟨300, 301, 10, 13⟩]
def smR : List Mrk := [⟨90, 92, 11, 12⟩, ⟨185, 190, 52, 60⟩, ⟨280, 282, 9, 10⟩, ⟨292, 294, 12, 14⟩]
/-- The sample. -/
def smp (bL bR : Nat) : Rr := ⟨smL, some ⟨bL, 0, none⟩, 3, smR, some ⟨bR, 0, none⟩, 4, 5, 20, 1⟩
theorem smL_at {W : World} {b : Nat} (hb : Box W b [.int .i64 100, .int .i64 102, .int .i64 10, .int .i64 12, .int .i64 200, .int .i64 202, .int .i64 50, .int .i64 55, .int .i64 300, .int .i64 301, .int .i64 10, .int .i64 13] 65) : MksAt smL (some ⟨b, 0, none⟩) W := by
  refine ⟨by decide, fun i m hm => ?_⟩
  have hi : i < 3 := (List.getElem?_eq_some_iff.1 hm).1
  have : i = 0 ∨ i = 1 ∨ i = 2 := by omega
  rcases this with rfl | rfl | rfl <;> cases hm
  · exact ⟨b, 0, rfl, hb.lt, hb.cell (i := 0) rfl, hb.cell (i := 1) rfl, hb.cell (i := 2) rfl, hb.cell (i := 3) rfl⟩
  · exact ⟨b, 0, rfl, hb.lt, hb.cell (i := 4) rfl, hb.cell (i := 5) rfl, hb.cell (i := 6) rfl, hb.cell (i := 7) rfl⟩
  · exact ⟨b, 0, rfl, hb.lt, hb.cell (i := 8) rfl, hb.cell (i := 9) rfl, hb.cell (i := 10) rfl, hb.cell (i := 11) rfl⟩
theorem smR_at {W : World} {b : Nat} (hb : Box W b [.int .i64 90, .int .i64 92, .int .i64 11, .int .i64 12, .int .i64 185, .int .i64 190, .int .i64 52, .int .i64 60, .int .i64 280, .int .i64 282, .int .i64 9, .int .i64 10, .int .i64 292, .int .i64 294, .int .i64 12, .int .i64 14] 65) : MksAt smR (some ⟨b, 0, none⟩) W := by
  refine ⟨by decide, fun i m hm => ?_⟩
  have hi : i < 4 := (List.getElem?_eq_some_iff.1 hm).1
  have : i = 0 ∨ i = 1 ∨ i = 2 ∨ i = 3 := by omega
  rcases this with rfl | rfl | rfl | rfl <;> cases hm
  · exact ⟨b, 0, rfl, hb.lt, hb.cell (i := 0) rfl, hb.cell (i := 1) rfl, hb.cell (i := 2) rfl, hb.cell (i := 3) rfl⟩
  · exact ⟨b, 0, rfl, hb.lt, hb.cell (i := 4) rfl, hb.cell (i := 5) rfl, hb.cell (i := 6) rfl, hb.cell (i := 7) rfl⟩
  · exact ⟨b, 0, rfl, hb.lt, hb.cell (i := 8) rfl, hb.cell (i := 9) rfl, hb.cell (i := 10) rfl, hb.cell (i := 11) rfl⟩
  · exact ⟨b, 0, rfl, hb.lt, hb.cell (i := 12) rfl, hb.cell (i := 13) rfl, hb.cell (i := 14) rfl, hb.cell (i := 15) rfl⟩
def SmPost (w : World) (e : Ending) (w' : World) : Prop := (∃ bL bR, e = .returned (smp bL bR).val ∧ MksAt smL (some ⟨bL, 0, none⟩) w' ∧ MksAt smR (some ⟨bR, 0, none⟩) w') ∧ Below w.heap.size w w'
set_option maxRecDepth 100000 in
set_option maxHeartbeats 4000000 in
theorem sample_any (w : World) : Calls Try.prog 34 #[] w (SmPost w) := by
  have HM := Lib.hid (fun a b c d W => mark75_any a b c d W)
  have HS := Lib.hid (fun W => span35_any 5 20 W)
  go_enter Try.func34, Try.ntmps34
  obtain ⟨w0, hw0⟩ : ∃ w0, w0 = w.alloc (Obj.cells #[.slice none 0 0, .slice none 0 0, .int .i64 0, .int .i64 0, .int .i64 0] 26) := ⟨_, rfl⟩
  have HB0 := Lib.hid (show Box w0 w.heap.size [.slice none 0 0, .slice none 0 0, .int .i64 0, .int .i64 0, .int .i64 0] 26 by rw [hw0]; exact Box.fresh w [.slice none 0 0, .slice none 0 0, .int .i64 0, .int .i64 0, .int .i64 0] 26)
  have HA0 := Lib.hid (Gr.same w0)
  have hs0 : w0.heap.size = w.heap.size + 1 := by rw [hw0]; simp
  go_wp2_with (first | (go_at_call 75; rw [← hw0]; refine (HM.out _ _ _ _ _).mono ?_; rintro e w1 ⟨rfl, hb⟩; have HA1 := Lib.hid (show Gr w0 w1 from Gr.tr HA0.out hb); clear HA0 hb) | (go_at_call 75; refine (HM.out _ _ _ _ _).mono ?_; rintro e w2 ⟨rfl, hb⟩; have HA2 := Lib.hid (show Gr w0 w2 from Gr.tr HA1.out hb); clear HA1 hb) | (go_at_call 75; refine (HM.out _ _ _ _ _).mono ?_; rintro e w3 ⟨rfl, hb⟩; have HA3 := Lib.hid (show Gr w0 w3 from Gr.tr HA2.out hb); clear HA2 hb) | (go_at_call 75; refine (HM.out _ _ _ _ _).mono ?_; rintro e w4 ⟨rfl, hb⟩; have HA4 := Lib.hid (show Gr w0 w4 from Gr.tr (HA3.out.tr (Gr.alloc _ _)) hb); have HL4 := Lib.hid ((Box.fresh w3 [.int .i64 100, .int .i64 102, .int .i64 10, .int .i64 12, .int .i64 200, .int .i64 202, .int .i64 50, .int .i64 55, .int .i64 300, .int .i64 301, .int .i64 10, .int .i64 13] 65).grow hb); have l4 : w0.heap.size ≤ w3.heap.size := HA3.out.size; clear HA3 hb) | (go_at_call 75; refine (HM.out _ _ _ _ _).mono ?_; rintro e w5 ⟨rfl, hb⟩; have HA5 := Lib.hid (show Gr w0 w5 from Gr.tr HA4.out hb); have HL5 := Lib.hid (HL4.out.grow hb); clear HA4 hb HL4) | (go_at_call 75; refine (HM.out _ _ _ _ _).mono ?_; rintro e w6 ⟨rfl, hb⟩; have HA6 := Lib.hid (show Gr w0 w6 from Gr.tr HA5.out hb); have HL6 := Lib.hid (HL5.out.grow hb); clear HA5 hb HL5) | (go_at_call 75; refine (HM.out _ _ _ _ _).mono ?_; rintro e w7 ⟨rfl, hb⟩; have HA7 := Lib.hid (show Gr w0 w7 from Gr.tr HA6.out hb); have HL7 := Lib.hid (HL6.out.grow hb); clear HA6 hb HL6) | (go_at_call 35; refine (HS.out _).mono ?_; rintro e w8 ⟨rfl, hb⟩; have HA8 := Lib.hid (show Gr w0 w8 from Gr.tr (HA7.out.tr (Gr.alloc _ _)) hb); have HL8 := Lib.hid (HL7.out.grow ((Gr.alloc _ _).tr hb)); have HR8 := Lib.hid ((Box.fresh w7 [.int .i64 90, .int .i64 92, .int .i64 11, .int .i64 12, .int .i64 185, .int .i64 190, .int .i64 52, .int .i64 60, .int .i64 280, .int .i64 282, .int .i64 9, .int .i64 10, .int .i64 292, .int .i64 294, .int .i64 12, .int .i64 14] 65).grow hb); have l8 : w0.heap.size ≤ w7.heap.size := HA7.out.size; have HB8 := Lib.hid (HB0.out.grow HA8.out); have qc0 := HB8.out.cell (i := 0) rfl; have qf0 := HB8.out.free (i := 0); have qc1 := HB8.out.cell (i := 1) rfl; have qf1 := HB8.out.free (i := 1); have qc2 := HB8.out.cell (i := 2) rfl; have qf2 := HB8.out.free (i := 2); have qc3 := HB8.out.cell (i := 3) rfl; have qf3 := HB8.out.free (i := 3); have qc4 := HB8.out.cell (i := 4) rfl; have qf4 := HB8.out.free (i := 4); have ql := HB8.out.lt; clear HA7 hb HL7))
  have HB9 := (((((HB8.out.put 0 (.slice (some ⟨w3.heap.size, 0, none⟩) 3 3)).put 1 (.slice (some ⟨w7.heap.size, 0, none⟩) 4 4)).put 2 (.int .i64 5)).put 3 (.int .i64 20)).put 4 (.int .i64 1))
  have HO9 := ((((((Only.of HB8.out.lt (Gr.same w8)).tr (Only.set w8 (b := w.heap.size) 0 (.slice (some ⟨w3.heap.size, 0, none⟩) 3 3))).tr (Only.set (w8.setCell ⟨w.heap.size, 0, none⟩ (.slice (some ⟨w3.heap.size, 0, none⟩) 3 3)) (b := w.heap.size) 1 (.slice (some ⟨w7.heap.size, 0, none⟩) 4 4))).tr (Only.set ((w8.setCell ⟨w.heap.size, 0, none⟩ (.slice (some ⟨w3.heap.size, 0, none⟩) 3 3)).setCell ⟨w.heap.size, 1, none⟩ (.slice (some ⟨w7.heap.size, 0, none⟩) 4 4)) (b := w.heap.size) 2 (.int .i64 5))).tr (Only.set (((w8.setCell ⟨w.heap.size, 0, none⟩ (.slice (some ⟨w3.heap.size, 0, none⟩) 3 3)).setCell ⟨w.heap.size, 1, none⟩ (.slice (some ⟨w7.heap.size, 0, none⟩) 4 4)).setCell ⟨w.heap.size, 2, none⟩ (.int .i64 5)) (b := w.heap.size) 3 (.int .i64 20))).tr (Only.set ((((w8.setCell ⟨w.heap.size, 0, none⟩ (.slice (some ⟨w3.heap.size, 0, none⟩) 3 3)).setCell ⟨w.heap.size, 1, none⟩ (.slice (some ⟨w7.heap.size, 0, none⟩) 4 4)).setCell ⟨w.heap.size, 2, none⟩ (.int .i64 5)).setCell ⟨w.heap.size, 3, none⟩ (.int .i64 20)) (b := w.heap.size) 4 (.int .i64 1)))
  have HBW : Below w.heap.size w (((((w8.setCell ⟨w.heap.size, 0, none⟩ (.slice (some ⟨w3.heap.size, 0, none⟩) 3 3)).setCell ⟨w.heap.size, 1, none⟩ (.slice (some ⟨w7.heap.size, 0, none⟩) 4 4)).setCell ⟨w.heap.size, 2, none⟩ (.int .i64 5)).setCell ⟨w.heap.size, 3, none⟩ (.int .i64 20)).setCell ⟨w.heap.size, 4, none⟩ (.int .i64 1)) := ((((((show Below w.heap.size w w8 from bgr (by rw [hw0]; exact ((Below.refl _ _).alloc (by first | (simp; done) | (simp; omega) | omega) _)) (by omega) HA8.out).setCell (p := ⟨w.heap.size, 0, none⟩) (Nat.le_refl _) _).setCell (p := ⟨w.heap.size, 1, none⟩) (Nat.le_refl _) _).setCell (p := ⟨w.heap.size, 2, none⟩) (Nat.le_refl _) _).setCell (p := ⟨w.heap.size, 3, none⟩) (Nat.le_refl _) _).setCell (p := ⟨w.heap.size, 4, none⟩) (Nat.le_refl _) _)
  generalize (((((w8.setCell ⟨w.heap.size, 0, none⟩ (.slice (some ⟨w3.heap.size, 0, none⟩) 3 3)).setCell ⟨w.heap.size, 1, none⟩ (.slice (some ⟨w7.heap.size, 0, none⟩) 4 4)).setCell ⟨w.heap.size, 2, none⟩ (.int .i64 5)).setCell ⟨w.heap.size, 3, none⟩ (.int .i64 20)).setCell ⟨w.heap.size, 4, none⟩ (.int .i64 1)) = w9 at *
  have y0 := HB9.cell (i := 0) rfl
  have y1 := HB9.cell (i := 1) rfl
  have y2 := HB9.cell (i := 2) rfl
  have y3 := HB9.cell (i := 3) rfl
  have y4 := HB9.cell (i := 4) rfl
  refine bodyPost_ret (v := (smp w3.heap.size w7.heap.size).val) (by simp [results, Try.f34, go_sem, y0, y1, y2, y3, y4, smp, Rr.val, smL, smR]) rfl ⟨⟨_, _, rfl, smL_at (HO9.box HL8.out (by omega)), smR_at (HO9.box HR8.out (by omega))⟩, HBW⟩

end Go.Proofs.Ytjlaoiimbhlafaa
end
namespace Go.Proofs.Ytjlaoiimbhlafaa
open Go.RowKit Go.Shelf

open MW
theorem smp_ok (bL bR : Nat) : (smp bL bR).ok = true := by kernel_rfl
theorem smp_all0 (bL bR : Nat) : (smp bL bR).lkd.all0 = 2 := by kernel_rfl
theorem smp_fits20 (bL bR : Nat) : (smp bL bR).fits 2 0 = (false, 0) := by kernel_rfl
theorem smp_fits00 (bL bR : Nat) : (smp bL bR).fits 0 0 = (true, 0) := by kernel_rfl
theorem smp_counted (bL bR : Nat) : (smp bL bR).counted = (2, 0) := by kernel_rfl
theorem smp_fewest (bL bR : Nat) : (smp bL bR).fewest = ([(0, 0), (1, 1), (2, 2)], 1, 0) := by kernel_rfl
theorem smp_can (bL bR : Nat) : (smp bL bR).can = ([1, 2, 12], 0) := by kernel_rfl
theorem smp_surely (bL bR : Nat) : (smp bL bR).surely = ([0, 1, -1], 0) := by kernel_rfl
theorem smp_shift2 (bL bR : Nat) : (smp bL bR).shift 2 = (6, 20, 0) := by kernel_rfl
theorem smp_shift0 (bL bR : Nat) : (smp bL bR).shift 0 = (8, 12, 0) := by kernel_rfl
theorem smp_ask (bL bR : Nat) : (smp bL bR).ask = (2, 1, 0) := by kernel_rfl
theorem smp_hides (bL bR : Nat) : (smp bL bR).hides = (0, 12, 0) := by kernel_rfl

end Go.Proofs.Ytjlaoiimbhlafaa
section
namespace Go.Proofs.Ytjlaoiimbhlafaa
open Go.RowKit Go.Shelf

open MW
attribute [local go_sem] Oper.semAt_some run_store_func
theorem cells3i : Try.prog.cellsOf 3 = 1 := by kernel_rfl
theorem eq55 (a b c d : Int) (W : World) : (Op.equalIn 10000 55 (.agg #[.int .i64 a, .int .i64 b]) (.agg #[.int .i64 c, .int .i64 d])).run Try.prog W = .ok (a == c && b == d) W := by
  obtain ⟨i, hi, -⟩ := infoP info3r
  rw [run_equalIn_array (P := Try.prog) W 9999 _ _ Try.underlying55 hi]
  simp only [cells3i, show List.range 2 = [0, 1] from rfl, Op.eqItems]
  simp [go_sem]
  by_cases h1 : a = c <;> by_cases h2 : b = d <;> simp [h1, h2]
theorem eq24 (a b c d : Int) (W : World) : (Op.equalIn 10000 24 (.agg #[.int .i64 a, .int .i64 b]) (.agg #[.int .i64 c, .int .i64 d])).run Try.prog W = .ok (a == c && b == d) W := by
  rw [run_equalIn_struct (P := Try.prog) W 9999 24 _ _ (by kernel_rfl) (by kernel_rfl)]
  simp only [Program.fieldsOf, Try.underlying24]
  simp [go_sem]
  by_cases h1 : a = c <;> by_cases h2 : b = d <;> simp [h1, h2]
theorem guard55 (op : BinOp) (x y : Operand) (xs ys : Array Value) (W : World) : (eqGuard op 55 x y (.agg xs) (.agg ys)).run Try.prog W = .ok () W := run_eqGuard_agg W op 55 x y xs ys (by kernel_rfl)
theorem guard24 (op : BinOp) (x y : Operand) (xs ys : Array Value) (W : World) : (eqGuard op 24 x y (.agg xs) (.agg ys)).run Try.prog W = .ok () W := run_eqGuard_agg W op 24 x y xs ys (by kernel_rfl)
theorem neq55 (a b c d : Int) (W : World) : (binOp .neq 55 (.agg #[.int .i64 a, .int .i64 b]) (.agg #[.int .i64 c, .int .i64 d])).run Try.prog W = .ok (.bool (!(a == c && b == d))) W := by rw [run_neq_struct, eq55]; rfl
theorem eql24 (a b c d : Int) (W : World) : (binOp .eql 24 (.agg #[.int .i64 a, .int .i64 b]) (.agg #[.int .i64 c, .int .i64 d])).run Try.prog W = .ok (.bool (a == c && b == d)) W := by rw [run_eql_struct, eq24]; rfl
attribute [local go_sem] guard55 guard24 neq55 eql24
attribute [-go_sem] run_eql_struct run_neq_struct
/-- A slice of ints that reads so. -/
def IntsIn (v : Value) (l : List Int) (w : World) : Prop := ∃ p c, v = .slice p l.length c ∧ ∀ i x, l[i]? = some x → ∃ b o, p = some ⟨b, o, none⟩ ∧ b < w.heap.size ∧ w.cell? ⟨b, o + i, none⟩ = some (.int .i64 x)
def PrsIn (v : Value) (l : List (Nat × Nat)) (w : World) : Prop := ∃ p c, v = .slice p l.length c ∧ ∀ i x, l[i]? = some x → ∃ b o, p = some ⟨b, o, none⟩ ∧ b < w.heap.size ∧ w.cell? ⟨b, o + i * 2, none⟩ = some (.int .i64 x.1) ∧ w.cell? ⟨b, o + i * 2 + 1, none⟩ = some (.int .i64 x.2)
theorem list_ne {α : Type} {l1 l2 : List α} {i : Nat} {x y : α} (h1 : l1[i]? = some x) (h2 : l2[i]? = some y) (h : x ≠ y) : l1 ≠ l2 := by
  intro e
  rw [e, h2] at h1
  exact h (Option.some.inj h1).symm
theorem list_eq {α : Type} {l1 l2 : List α} (hl : l1.length = l2.length) (h : ∀ j, j < l1.length → l1[j]? = l2[j]?) : l1 = l2 := by
  apply List.ext_getElem?
  intro j
  by_cases hj : j < l1.length
  · exact h j hj
  · rw [List.getElem?_eq_none (by omega), List.getElem?_eq_none (by omega)]
set_option maxRecDepth 100000 in
set_option maxHeartbeats 4000000 in
theorem ints29_any (l1 l2 : List Int) (v1 v2 : Value) (w : World) (h1 : IntsIn v1 l1 w) (h2 : IntsIn v2 l2 w) (hlen : l1.length ≤ 1000) (hlen2 : l2.length ≤ 1000) :
    Calls Try.prog 29 #[v1, v2] w fun e w' => e = .returned (.bool (decide (l1 = l2))) ∧ Below w.heap.size w w' := by
  obtain ⟨p1, c1, rfl, h1⟩ := h1
  obtain ⟨p2, c2, rfl, h2⟩ := h2
  have H1 := Lib.hid h1
  have H2 := Lib.hid h2
  clear h1 h2
  cases hq : (l1.length == l2.length) with
  | false =>
    have hq2 : ¬ l1.length = l2.length := by simpa using hq
    have he : ((l1.length : Int) == (l2.length : Int)) = false := by rw [← hq, Bool.eq_iff_iff, beq_iff_eq, beq_iff_eq]; omega
    have hd : decide (l1 = l2) = false := by simp only [decide_eq_false_iff_not]; exact fun e => hq2 (by rw [e])
    have HD := Lib.hid hd
    clear hq hd
    go_enter Try.func29, Try.ntmps29
    go_wp2_with fail
    go_ret
    exact ⟨by rw [HD.out]; rfl, Below.refl _ _⟩
  | true =>
    have hq2 : l1.length = l2.length := by simpa using hq
    have HQ := Lib.hid hq2
    have he : ((l1.length : Int) == (l2.length : Int)) = true := by rw [← hq, Bool.eq_iff_iff, beq_iff_eq, beq_iff_eq]; omega
    clear hq
    go_enter Try.func29, Try.ntmps29
    go_wp2_with fail
    clear he
    go_loopw [5] (fun t wr => ∃ i : Nat, i ≤ l1.length ∧ t = .int .i64 i ∧ Hid (Gr w wr) ∧ Hid (∀ j, j < i → l1[j]? = l2[j]?)) (fun t _ => (2000 - intOf t).toNat)
    case atStart => exact ⟨0, Nat.zero_le _, rfl, Lib.hid (Gr.same _), Lib.hid fun j hj => absurd hj (by omega)⟩
    case round =>
      obtain ⟨i, hi, rfl, HG, HE⟩ := hrel
      by_cases hlt : i < l1.length
      · have hlt2 : i < l2.length := by omega
        obtain ⟨x, hx⟩ : ∃ x, l1[i]? = some x := ⟨l1[i], List.getElem?_eq_getElem hlt⟩
        obtain ⟨y, hy⟩ : ∃ y, l2[i]? = some y := ⟨l2[i], List.getElem?_eq_getElem hlt2⟩
        obtain ⟨bL, oL, hp1, hb1, hcs1⟩ := H1.out i x hx
        obtain ⟨bR, oR, hp2, hb2, hcs2⟩ := H2.out i y hy
        subst hp1 hp2
        have HX := Lib.hid hx
        have HY := Lib.hid hy
        obtain ⟨hc, hf, hz⟩ := bcell HG.out
        have k1 := hz _ hb1
        have k2 := hz _ hb2
        have q1 := (hc _ _ hb1).trans hcs1
        have q2 := (hc _ _ hb2).trans hcs2
        have g1 : (i : Int) < l1.length := by omega
        have g2 : (i : Int) < l2.length := by omega
        clear hc hf hz hcs1 hcs2 hx hy H1 H2
        by_cases hxy : x = y
        · subst hxy
          have ne : (x != x) = false := by simp
          go_wp2_with fail
          go_region
          go_wp2_with fail
          refine ⟨⟨i + 1, by omega, by go_num, Lib.hid (by first | exact HG.out | exact Gr.tr HG.out (Gr.drew _)), Lib.hid fun j hj => ?_⟩, by simp [intOf]; omega⟩
          by_cases hji : j = i
          · rw [hji, HX.out, HY.out]
          · exact HE.out j (by omega)
        · have hd : decide (l1 = l2) = false := by simp only [decide_eq_false_iff_not]; exact list_ne HX.out HY.out hxy
          have HD := Lib.hid hd
          have ne : (x != y) = true := by simpa using hxy
          clear hd hxy
          go_wp2_with fail
          go_region
          go_wp2_with fail
          go_ret
          exact ⟨by rw [HD.out]; rfl, by first | exact HG.out | exact Gr.tr HG.out (Gr.drew _)⟩
      · have hin : i = l1.length := by omega
        have hd : decide (l1 = l2) = true := by simp only [decide_eq_true_eq]; exact list_eq HQ.out fun j hj => HE.out j (by omega)
        have HD := Lib.hid hd
        clear hd
        go_wp2_with fail
        go_ret
        exact ⟨by rw [HD.out]; rfl, HG.out⟩
set_option maxRecDepth 100000 in
set_option maxHeartbeats 4000000 in
theorem pairs22_any (l1 l2 : List (Nat × Nat)) (v1 v2 : Value) (w : World) (h1 : PrsIn v1 l1 w) (h2 : PrsIn v2 l2 w) (hlen : l1.length ≤ 1000) (hlen2 : l2.length ≤ 1000) :
    Calls Try.prog 22 #[v1, v2] w fun e w' => e = .returned (.bool (decide (l1 = l2))) ∧ Below w.heap.size w w' := by
  obtain ⟨p1, c1, rfl, h1⟩ := h1
  obtain ⟨p2, c2, rfl, h2⟩ := h2
  have H1 := Lib.hid h1
  have H2 := Lib.hid h2
  clear h1 h2
  cases hq : (l1.length == l2.length) with
  | false =>
    have hq2 : ¬ l1.length = l2.length := by simpa using hq
    have he : ((l1.length : Int) == (l2.length : Int)) = false := by rw [← hq, Bool.eq_iff_iff, beq_iff_eq, beq_iff_eq]; omega
    have hd : decide (l1 = l2) = false := by simp only [decide_eq_false_iff_not]; exact fun e => hq2 (by rw [e])
    have HD := Lib.hid hd
    clear hq hd
    go_enter Try.func22, Try.ntmps22
    go_wp2_with fail
    go_ret
    exact ⟨by rw [HD.out]; rfl, Below.refl _ _⟩
  | true =>
    have hq2 : l1.length = l2.length := by simpa using hq
    have HQ := Lib.hid hq2
    have he : ((l1.length : Int) == (l2.length : Int)) = true := by rw [← hq, Bool.eq_iff_iff, beq_iff_eq, beq_iff_eq]; omega
    clear hq
    go_enter Try.func22, Try.ntmps22
    go_wp2_with fail
    clear he
    go_loopw [5] (fun t wr => ∃ i : Nat, i ≤ l1.length ∧ t = .int .i64 i ∧ Hid (Gr w wr) ∧ Hid (∀ j, j < i → l1[j]? = l2[j]?)) (fun t _ => (2000 - intOf t).toNat)
    case atStart => exact ⟨0, Nat.zero_le _, rfl, Lib.hid (Gr.same _), Lib.hid fun j hj => absurd hj (by omega)⟩
    case round =>
      obtain ⟨i, hi, rfl, HG, HE⟩ := hrel
      by_cases hlt : i < l1.length
      · have hlt2 : i < l2.length := by omega
        obtain ⟨x, hx⟩ : ∃ x, l1[i]? = some x := ⟨l1[i], List.getElem?_eq_getElem hlt⟩
        obtain ⟨y, hy⟩ : ∃ y, l2[i]? = some y := ⟨l2[i], List.getElem?_eq_getElem hlt2⟩
        obtain ⟨bL, oL, hp1, hb1, hcs1⟩ := H1.out i x hx
        obtain ⟨bR, oR, hp2, hb2, hcs2⟩ := H2.out i y hy
        subst hp1 hp2
        have HX := Lib.hid hx
        have HY := Lib.hid hy
        obtain ⟨hc, hf, hz⟩ := bcell HG.out
        have k1 := hz _ hb1
        have k2 := hz _ hb2
        have q1 := (hc _ _ hb1).trans hcs1.1
        have q2 := (hc _ _ hb1).trans hcs1.2
        have q3 := (hc _ _ hb2).trans hcs2.1
        have q4 := (hc _ _ hb2).trans hcs2.2
        have g1 : (i : Int) < l1.length := by omega
        have g2 : (i : Int) < l2.length := by omega
        clear hc hf hz hcs1 hcs2 hx hy H1 H2
        by_cases hxy : x = y
        · subst hxy
          skip
          go_wp2_with fail
          go_region
          go_wp2_with fail
          refine ⟨⟨i + 1, by omega, by go_num, Lib.hid (by first | exact HG.out | exact Gr.tr HG.out (Gr.drew _)), Lib.hid fun j hj => ?_⟩, by simp [intOf]; omega⟩
          by_cases hji : j = i
          · rw [hji, HX.out, HY.out]
          · exact HE.out j (by omega)
        · have hd : decide (l1 = l2) = false := by simp only [decide_eq_false_iff_not]; exact list_ne HX.out HY.out hxy
          have HD := Lib.hid hd
          have ne : (!(x.1 : Int) == (y.1 : Int) || !(x.2 : Int) == (y.2 : Int)) = true := by
            simp only [Bool.or_eq_true, Bool.not_eq_true', beq_eq_false_iff_ne]
            by_cases h : x.1 = y.1
            · exact .inr fun e => hxy (Prod.ext h (by omega))
            · exact .inl fun e => h (by omega)
          clear hd hxy
          go_wp2_with fail
          go_region
          go_wp2_with fail
          go_ret
          exact ⟨by rw [HD.out]; rfl, by first | exact HG.out | exact Gr.tr HG.out (Gr.drew _)⟩
      · have hin : i = l1.length := by omega
        have hd : decide (l1 = l2) = true := by simp only [decide_eq_true_eq]; exact list_eq HQ.out fun j hj => HE.out j (by omega)
        have HD := Lib.hid hd
        clear hd
        go_wp2_with fail
        go_ret
        exact ⟨by rw [HD.out]; rfl, HG.out⟩

end Go.Proofs.Ytjlaoiimbhlafaa
end
