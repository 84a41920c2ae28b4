import Derived.Test.YtjlaoiimbhlafaaC38
set_option linter.unusedVariables false
set_option linter.unusedSimpArgs false
namespace Go.Proofs.Ytjlaoiimbhlafaa
open Go.RowKit Go.Shelf

open MW
attribute [local go_sem] Oper.semAt_some run_store_func
set_option maxHeartbeats 1000000 in
theorem span35_any (a b : Int) (w : World) :
    Calls Try.prog 35 #[.int .i64 a, .int .i64 b] w fun e w' => e = .returned (.agg #[.int .i64 a, .int .i64 b]) ∧ Below w.heap.size w w' := by
  go_enter Try.func35, Try.ntmps35
  go_wp2
  have HB := Box.fresh w [.int .i64 a, .int .i64 b] 24
  have y0 := HB.cell (i := 0) rfl
  have y1 := HB.cell (i := 1) rfl
  exact bodyPost_ret (v := .agg #[.int .i64 a, .int .i64 b]) (by simp [results, Try.f35, go_sem, y0, y1]) rfl ⟨rfl, (Below.refl _ _).alloc (Nat.le_refl _) _⟩
set_option maxHeartbeats 2000000 in
theorem mark75_any (a b c d : Int) (w : World) :
    Calls Try.prog 75 #[.int .i64 a, .int .i64 b, .int .i64 c, .int .i64 d] w fun e w' => e = .returned (.agg #[.int .i64 a, .int .i64 b, .int .i64 c, .int .i64 d]) ∧ Below w.heap.size w w' := by
  have HS := Lib.hid (fun W => span35_any a b W)
  have HS2 := Lib.hid (fun W => span35_any c d W)
  have HB0 := Lib.hid (Box.fresh w [.int .i64 0, .int .i64 0, .int .i64 0, .int .i64 0] 65)
  go_enter Try.func75, Try.ntmps75
  go_wp2_with (first | (go_at_call 35; refine (HS.out _).mono ?_; rintro e w1 ⟨rfl, hb1⟩; have HG1 := Lib.hid (show Gr _ w1 from hb1); have HB1 := Lib.hid (HB0.out.grow hb1); clear hb1 HB0 HS) | (go_at_call 35; refine (HS2.out _).mono ?_; rintro e w2 ⟨rfl, hb2⟩; have HG2 := Lib.hid (show Gr _ w2 from hb2); have HB2 := Lib.hid (HB1.out.grow hb2); have qc0 := HB2.out.cell (i := 0) rfl; have qf0 := HB2.out.free (i := 0); have qc1 := HB2.out.cell (i := 1) rfl; have qf1 := HB2.out.free (i := 1); have qc2 := HB2.out.cell (i := 2) rfl; have qf2 := HB2.out.free (i := 2); have qc3 := HB2.out.cell (i := 3) rfl; have qf3 := HB2.out.free (i := 3); have ql := HB2.out.lt; clear hb2 HB1))
  have HB3 := (((HB2.out.put 0 (.int .i64 a)).put 1 (.int .i64 b)).put 2 (.int .i64 c)).put 3 (.int .i64 d)
  have y0 := HB3.cell (i := 0) rfl
  have y1 := HB3.cell (i := 1) rfl
  have y2 := HB3.cell (i := 2) rfl
  have y3 := HB3.cell (i := 3) rfl
  exact bodyPost_ret (v := .agg #[.int .i64 a, .int .i64 b, .int .i64 c, .int .i64 d]) (by simp [results, Try.f75, go_sem, y0, y1, y2, y3]) rfl ⟨rfl, ((((bgr ((Below.refl _ _).alloc (by first | (simp; done) | (simp; omega) | omega) _) (by first | (simp; done) | (simp; omega) | omega) (Gr.tr HG1.out HG2.out)).setCell (by first | (simp; done) | (simp; omega) | omega) _).setCell (by first | (simp; done) | (simp; omega) | omega) _).setCell (by first | (simp; done) | (simp; omega) | omega) _).setCell (by first | (simp; done) | (simp; omega) | omega) _⟩

end Go.Proofs.Ytjlaoiimbhlafaa
