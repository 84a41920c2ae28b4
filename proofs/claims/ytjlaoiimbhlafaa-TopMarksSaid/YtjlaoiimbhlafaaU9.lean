import Derived.Test.YtjlaoiimbhlafaaU8
set_option linter.unusedVariables false
set_option linter.unusedSimpArgs false
namespace Go.Proofs.Ytjlaoiimbhlafaa
open Go.RowKit Go.Shelf

open MW
attribute [local go_sem] Oper.semAt_some run_store_func
attribute [local go_sem ↓] Go.wp_at_zero Go.wp_at_succ
attribute [local go_sem] guard55 guard24 neq55 eql24 neq24
attribute [-go_sem] run_eql_struct run_neq_struct
set_option maxRecDepth 100000 in
set_option maxHeartbeats 8000000 in
theorem ltop_longL (r : Rr) (w : World) (h : 10 < r.L.length) :
    Calls Try.prog 13 #[r.val] w fun e w' => e = .returned (.bool true) ∧ Below w.heap.size w w' := by
  have g1 : (10 : Int) < r.L.length := by omega
  have HBR := Lib.hid (Box.fresh w r.cs 26)
  have HB := HBR
  have HG := Lib.hid (show Gr w (w.alloc (Obj.cells r.cs.toArray 26)) from Gr.alloc _ _)
  unfold Rr.cs at HB HG
  unfold Rr.val at *
  obtain ⟨r0, r1, r2, r3, r4⟩ := cells5 HB.out
  have rl := HB.out.lt
  go_enter Try.func13, Try.ntmps13
  go_wp2_with (first | (go_at_call 43; (with_reducible refine (alive02_any _).mono ?_); rintro e wa ⟨rfl, hb⟩; have HGA := Lib.hid (Gr.tr HG.out hb); clear hb) | (go_at_call 38; clear r0 r1 r2 r3 r4 rl; (with_reducible refine (H38.out _ HG.out).mono ?_); rintro e wz ⟨rfl, hb⟩; have HG := Lib.hid (HG.out.tr hb); have HB := Lib.hid (HB.out.grow hb); have HBR := Lib.hid (HBR.out.grow hb); obtain ⟨r0, r1, r2, r3, r4⟩ := cells5 HB.out; have rl := HB.out.lt; clear hb))
  go_ret
  exact ⟨rfl, HGA.out⟩
set_option maxRecDepth 100000 in
set_option maxHeartbeats 8000000 in
theorem ltop_longR (r : Rr) (w : World) (h0 : r.L.length ≤ 10) (h : 10 < r.R.length) :
    Calls Try.prog 13 #[r.val] w fun e w' => e = .returned (.bool true) ∧ Below w.heap.size w w' := by
  have g1 : ¬ (10 : Int) < r.L.length := by omega
  have g2 : (10 : Int) < r.R.length := by omega
  have HBR := Lib.hid (Box.fresh w r.cs 26)
  have HB := HBR
  have HG := Lib.hid (show Gr w (w.alloc (Obj.cells r.cs.toArray 26)) from Gr.alloc _ _)
  unfold Rr.cs at HB HG
  unfold Rr.val at *
  obtain ⟨r0, r1, r2, r3, r4⟩ := cells5 HB.out
  have rl := HB.out.lt
  go_enter Try.func13, Try.ntmps13
  go_wp2_with (first | (go_at_call 43; (with_reducible refine (alive02_any _).mono ?_); rintro e wa ⟨rfl, hb⟩; have HGA := Lib.hid (Gr.tr HG.out hb); clear hb) | (go_at_call 38; clear r0 r1 r2 r3 r4 rl; (with_reducible refine (H38.out _ HG.out).mono ?_); rintro e wz ⟨rfl, hb⟩; have HG := Lib.hid (HG.out.tr hb); have HB := Lib.hid (HB.out.grow hb); have HBR := Lib.hid (HBR.out.grow hb); obtain ⟨r0, r1, r2, r3, r4⟩ := cells5 HB.out; have rl := HB.out.lt; clear hb))
  go_ret
  exact ⟨rfl, HGA.out⟩
set_option maxRecDepth 100000 in
set_option maxHeartbeats 8000000 in
theorem ltop_bad (r : Rr) (w : World) (hl : MksAt r.L r.lp w) (hr : MksAt r.R r.rp w) (h0 : r.L.length ≤ 10) (h1 : r.R.length ≤ 10) (hok : r.ok = false) :
    Calls Try.prog 13 #[r.val] w fun e w' => e = .returned (.bool true) ∧ Below w.heap.size w w' := by
  have g1 : ¬ (10 : Int) < r.L.length := by omega
  have g2 : ¬ (10 : Int) < r.R.length := by omega
  have H38 := Lib.hid (fun W (hg : Gr w W) => rows38_is r W (hl.grow hg) (hr.grow hg) false hok)
  clear hl hr hok
  have HBR := Lib.hid (Box.fresh w r.cs 26)
  have HB := HBR
  have HG := Lib.hid (show Gr w (w.alloc (Obj.cells r.cs.toArray 26)) from Gr.alloc _ _)
  unfold Rr.cs at HB HG
  unfold Rr.val at *
  obtain ⟨r0, r1, r2, r3, r4⟩ := cells5 HB.out
  have rl := HB.out.lt
  go_enter Try.func13, Try.ntmps13
  go_wp2_with (first | (go_at_call 43; (with_reducible refine (alive02_any _).mono ?_); rintro e wa ⟨rfl, hb⟩; have HGA := Lib.hid (Gr.tr HG.out hb); clear hb) | (go_at_call 38; clear r0 r1 r2 r3 r4 rl; (with_reducible refine (H38.out _ HG.out).mono ?_); rintro e wz ⟨rfl, hb⟩; have HG := Lib.hid (HG.out.tr hb); have HB := Lib.hid (HB.out.grow hb); have HBR := Lib.hid (HBR.out.grow hb); obtain ⟨r0, r1, r2, r3, r4⟩ := cells5 HB.out; have rl := HB.out.lt; clear hb))
  go_ret
  exact ⟨rfl, HGA.out⟩
set_option maxRecDepth 100000 in
set_option maxHeartbeats 8000000 in
theorem ltop_ok (r : Rr) (w : World) (hl : MksAt r.L r.lp w) (hr : MksAt r.R r.rp w) (hok : r.ok = true) :
    Calls Try.prog 13 #[r.val] w fun e w' => e = .returned (.bool true) ∧ Below w.heap.size w w' := by
  obtain ⟨h0, h1, -⟩ := Rr.ok_parts hok
  have g1 : ¬ (10 : Int) < r.L.length := by omega
  have g2 : ¬ (10 : Int) < r.R.length := by omega
  have H38 := Lib.hid (fun W (hg : Gr w W) => rows38_is r W (hl.grow hg) (hr.grow hg) true hok)
  have HML := Lib.hid hl
  have HMR := Lib.hid hr
  have HOK := Lib.hid hok
  clear hl hr hok
  have HBR := Lib.hid (Box.fresh w r.cs 26)
  have HB := HBR
  have HG := Lib.hid (show Gr w (w.alloc (Obj.cells r.cs.toArray 26)) from Gr.alloc _ _)
  unfold Rr.cs at HB HG
  unfold Rr.val at *
  obtain ⟨r0, r1, r2, r3, r4⟩ := cells5 HB.out
  have rl := HB.out.lt
  go_enter Try.func13, Try.ntmps13
  apply wp_seq_k
  intro KA hKA
  have HKA := Lib.hid hKA
  clear hKA
  go_wp2_with fail
  refine HKA.out _ _ ?_
  clear HKA
  apply wp_seq_k
  intro KA hKA
  have HKA := Lib.hid hKA
  clear hKA
  go_wp2_with (first | (go_at_call 38; clear r0 r1 r2 r3 r4 rl; (with_reducible refine (H38.out _ HG.out).mono ?_); rintro e wz ⟨rfl, hb⟩; have HG := Lib.hid (HG.out.tr hb); have HB := Lib.hid (HB.out.grow hb); have HBR := Lib.hid (HBR.out.grow hb); obtain ⟨r0, r1, r2, r3, r4⟩ := cells5 HB.out; have rl := HB.out.lt; clear hb))
  exact HKA.out _ _ (ltop_marks r w.heap.size w wz HOK.out HBR.out HG.out (HML.out.grow HG.out) (HMR.out.grow HG.out))
theorem ltop_any (r : Rr) (w : World) (hl : r.L.length ≤ 24 → MksAt r.L r.lp w) (hr : r.R.length ≤ 24 → MksAt r.R r.rp w) :
    Calls Try.prog 13 #[r.val] w fun e w' => e = .returned (.bool true) ∧ Below w.heap.size w w' := by
  by_cases h1 : 10 < r.L.length
  · exact ltop_longL r w h1
  by_cases h2 : 10 < r.R.length
  · exact ltop_longR r w (by omega) h2
  cases hok : r.ok with
  | true => exact ltop_ok r w (hl (by omega)) (hr (by omega)) hok
  | false => exact ltop_bad r w (hl (by omega)) (hr (by omega)) (by omega) (by omega) hok

end Go.Proofs.Ytjlaoiimbhlafaa
