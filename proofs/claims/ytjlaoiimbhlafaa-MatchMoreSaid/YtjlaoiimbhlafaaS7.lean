import Derived.Test.YtjlaoiimbhlafaaS9
import Derived.Test.YtjlaoiimbhlafaaS4
set_option linter.unusedVariables false
set_option linter.unusedSimpArgs false
namespace Go.Proofs.Ytjlaoiimbhlafaa
open Go.RowKit Go.Shelf

open MW
attribute [local go_sem] Oper.semAt_some run_store_func
attribute [local go_sem ↓] Go.wp_at_zero Go.wp_at_succ
attribute [local go_sem] guard55 guard24 neq55 eql24 neq24
attribute [-go_sem] run_eql_struct run_neq_struct
set_option maxRecDepth 100000 in
set_option maxHeartbeats 8000000 in
theorem lmore_yes (r : Rr) (wn bn : Nat) (hwn : wn ≤ 255) (hbn : bn ≤ 255) (w : World) (hl : r.L.length ≤ 24 → MksAt r.L r.lp w) (hr : r.R.length ≤ 24 → MksAt r.R r.rp w) (hg : r.great 10 = false) (h1 : r.L.length ≤ 24) (h2 : r.R.length ≤ 24) (hok : r.ok = true) (hn : r.L.length ≠ 0) :
    Calls Try.prog 11 #[r.val, .int .u8 wn, .int .u8 bn] w fun e w' => e = .returned (.bool true) ∧ Below w.heap.size w w' := by
  have H14 := Lib.hid (fun W (hg : Gr w W) => great10_any r W (fun h => (hl h).grow hg) (fun h => (hr h).grow hg))
  rw [hg] at H14
  have H38 := Lib.hid (fun W (hg : Gr w W) => rows38_is r W ((hl h1).grow hg) ((hr h2).grow hg) true hok)
  obtain ⟨p1, p2, p3, p4, ⟨p5, p6, p7⟩, p8, p9⟩ := Rr.ok_parts hok
  have HOK := Lib.hid hok
  have HML := Lib.hid (hl h1)
  have HMR := Lib.hid (hr h2)
  have hn2 : ((r.L.length : Int) == 0) = false := by rw [beq_eq_false_iff_ne]; omega
  have hn3 : decide (r.L.length = 0) = false := decide_eq_false hn
  obtain ⟨x, hx⟩ : ∃ x, r.L[wn % r.L.length]? = some x := ⟨_, List.getElem?_eq_getElem (Nat.mod_lt _ (by omega))⟩
  have HX := Lib.hid hx
  have hxo := p3 x (List.mem_of_getElem? hx)
  unfold Mrk.ok okS at hxo
  simp only [Bool.and_eq_true, decide_eq_true_eq] at hxo
  obtain ⟨⟨xa1, xa2, xa3⟩, xc1, xc2, xc3⟩ := hxo
  obtain ⟨bL, oL, hlp⟩ := mk_at HML.out hx
  have HLP := Lib.hid hlp
  have hid : wn % r.L.length < r.L.length := Nat.mod_lt _ (by omega)
  have hmr : ((wn : Int) % (r.L.length : Int)) = ((wn % r.L.length : Nat) : Int) := by simp
  clear hl hr hg hok hx hlp p3 p4
  have HB := Lib.hid (Box.fresh w r.cs 26)
  have HG := Lib.hid (show Gr w (w.alloc (Obj.cells r.cs.toArray 26)) from Gr.alloc _ _)
  unfold Rr.cs at HB HG
  unfold Rr.val at *
  obtain ⟨r0, r1, r2, r3, r4⟩ := cells5 HB.out
  have rl := HB.out.lt
  have hw1 : w.heap.size < (w.alloc (Obj.cells #[.slice r.lp r.L.length r.lc, .slice r.rp r.R.length r.rc, .int .i64 r.s, .int .i64 r.t, .int .i64 r.h] 26)).heap.size := by simp
  go_enter Try.func11, Try.ntmps11
  go_upto_region 3 with (first | (go_at_call 14; (with_reducible refine (H14.out _ (by first | exact HG.out | exact Gr.tr HG.out (Gr.alloc _ _) | exact Gr.tr HG.out ((Gr.alloc _ _).tr (Gr.alloc _ _)) | exact Gr.tr HG.out (Gr.drew _))).mono ?_); rintro e wg ⟨rfl, hb⟩; have HG := Lib.hid (show Gr w wg from by first | exact Gr.tr HG.out hb | exact Gr.tr (HG.out.tr (Gr.alloc _ _)) hb | exact Gr.tr (HG.out.tr ((Gr.alloc _ _).tr (Gr.alloc _ _))) hb | exact Gr.tr (HG.out.tr (Gr.drew _)) hb); have HB := Lib.hid (HB.out.grow (by first | exact hb | exact Gr.tr (Gr.alloc _ _) hb | exact Gr.tr ((Gr.alloc _ _).tr (Gr.alloc _ _)) hb | exact Gr.tr (Gr.drew _) hb)); clear r0 r1 r2 r3 r4 rl; obtain ⟨r0, r1, r2, r3, r4⟩ := cells5 HB.out; have rl := HB.out.lt; clear hb) | (go_at_call 38; (with_reducible refine (H38.out _ (by first | exact HG.out | exact Gr.tr HG.out (Gr.alloc _ _) | exact Gr.tr HG.out ((Gr.alloc _ _).tr (Gr.alloc _ _)) | exact Gr.tr HG.out (Gr.drew _))).mono ?_); rintro e wr ⟨rfl, hb⟩; have HG := Lib.hid (show Gr w wr from by first | exact Gr.tr HG.out hb | exact Gr.tr (HG.out.tr (Gr.alloc _ _)) hb | exact Gr.tr (HG.out.tr ((Gr.alloc _ _).tr (Gr.alloc _ _))) hb | exact Gr.tr (HG.out.tr (Gr.drew _)) hb); have HB := Lib.hid (HB.out.grow (by first | exact hb | exact Gr.tr (Gr.alloc _ _) hb | exact Gr.tr ((Gr.alloc _ _).tr (Gr.alloc _ _)) hb | exact Gr.tr (Gr.drew _) hb)); clear r0 r1 r2 r3 r4 rl; obtain ⟨r0, r1, r2, r3, r4⟩ := cells5 HB.out; have rl := HB.out.lt; clear hb))
  go_cut [7, 8, 9] (fun p7 p8 p9 wx => ∃ b7 b8 b9 : Nat, p7 = .pointer (some ⟨b7, 0, none⟩) ∧ p8 = .pointer (some ⟨b8, 0, none⟩) ∧ p9 = .pointer (some ⟨b9, 0, none⟩) ∧ (b7 ≠ b8 ∧ b7 ≠ b9 ∧ b8 ≠ b9 ∧ wr.heap.size ≤ b7 ∧ wr.heap.size ≤ b8 ∧ wr.heap.size ≤ b9) ∧ (Box wx b7 [.slice r.lp r.L.length r.lc, .slice r.rp r.R.length r.rc, .int .i64 r.s, .int .i64 r.t, .int .i64 r.h] 26 ∧ Box wx b8 [.slice r.lp r.L.length r.lc, .slice r.rp r.R.length r.rc, .int .i64 r.s, .int .i64 r.t, .int .i64 r.h] 26 ∧ Box wx b9 [.slice r.lp r.L.length r.lc, .slice r.rp r.R.length r.rc, .int .i64 r.s, .int .i64 r.t, .int .i64 r.h] 26) ∧ Gr wr wx)
  case first =>
    have HBA : Box ((((wr.alloc (Obj.cells #[.slice r.lp r.L.length r.lc, .slice r.rp r.R.length r.rc, .int .i64 r.s, .int .i64 r.t, .int .i64 r.h] 26)).alloc (Obj.cells #[.slice r.lp r.L.length r.lc, .slice r.rp r.R.length r.rc, .int .i64 r.s, .int .i64 r.t, .int .i64 r.h] 26)).alloc (Obj.cells #[.slice r.lp r.L.length r.lc, .slice r.rp r.R.length r.rc, .int .i64 r.s, .int .i64 r.t, .int .i64 r.h] 26)).drew) wr.heap.size [.slice r.lp r.L.length r.lc, .slice r.rp r.R.length r.rc, .int .i64 r.s, .int .i64 r.t, .int .i64 r.h] 26 := (((Box.fresh wr [.slice r.lp r.L.length r.lc, .slice r.rp r.R.length r.rc, .int .i64 r.s, .int .i64 r.t, .int .i64 r.h] 26).grow (Gr.alloc _ _)).grow (Gr.alloc _ _)).grow (Gr.drew _)
    have HBB : Box ((((wr.alloc (Obj.cells #[.slice r.lp r.L.length r.lc, .slice r.rp r.R.length r.rc, .int .i64 r.s, .int .i64 r.t, .int .i64 r.h] 26)).alloc (Obj.cells #[.slice r.lp r.L.length r.lc, .slice r.rp r.R.length r.rc, .int .i64 r.s, .int .i64 r.t, .int .i64 r.h] 26)).alloc (Obj.cells #[.slice r.lp r.L.length r.lc, .slice r.rp r.R.length r.rc, .int .i64 r.s, .int .i64 r.t, .int .i64 r.h] 26)).drew) (wr.heap.size + 1) [.slice r.lp r.L.length r.lc, .slice r.rp r.R.length r.rc, .int .i64 r.s, .int .i64 r.t, .int .i64 r.h] 26 := by
      have := ((Box.fresh (wr.alloc (Obj.cells #[.slice r.lp r.L.length r.lc, .slice r.rp r.R.length r.rc, .int .i64 r.s, .int .i64 r.t, .int .i64 r.h] 26)) [.slice r.lp r.L.length r.lc, .slice r.rp r.R.length r.rc, .int .i64 r.s, .int .i64 r.t, .int .i64 r.h] 26).grow (Gr.alloc _ (Obj.cells #[.slice r.lp r.L.length r.lc, .slice r.rp r.R.length r.rc, .int .i64 r.s, .int .i64 r.t, .int .i64 r.h] 26))).grow (Gr.drew _)
      simpa using this
    have HBC : Box ((((wr.alloc (Obj.cells #[.slice r.lp r.L.length r.lc, .slice r.rp r.R.length r.rc, .int .i64 r.s, .int .i64 r.t, .int .i64 r.h] 26)).alloc (Obj.cells #[.slice r.lp r.L.length r.lc, .slice r.rp r.R.length r.rc, .int .i64 r.s, .int .i64 r.t, .int .i64 r.h] 26)).alloc (Obj.cells #[.slice r.lp r.L.length r.lc, .slice r.rp r.R.length r.rc, .int .i64 r.s, .int .i64 r.t, .int .i64 r.h] 26)).drew) (wr.heap.size + 1 + 1) [.slice r.lp r.L.length r.lc, .slice r.rp r.R.length r.rc, .int .i64 r.s, .int .i64 r.t, .int .i64 r.h] 26 := by
      have := (Box.fresh ((wr.alloc (Obj.cells #[.slice r.lp r.L.length r.lc, .slice r.rp r.R.length r.rc, .int .i64 r.s, .int .i64 r.t, .int .i64 r.h] 26)).alloc (Obj.cells #[.slice r.lp r.L.length r.lc, .slice r.rp r.R.length r.rc, .int .i64 r.s, .int .i64 r.t, .int .i64 r.h] 26)) [.slice r.lp r.L.length r.lc, .slice r.rp r.R.length r.rc, .int .i64 r.s, .int .i64 r.t, .int .i64 r.h] 26).grow (Gr.drew _)
      simpa using this
    have HGD : Gr wr ((((wr.alloc (Obj.cells #[.slice r.lp r.L.length r.lc, .slice r.rp r.R.length r.rc, .int .i64 r.s, .int .i64 r.t, .int .i64 r.h] 26)).alloc (Obj.cells #[.slice r.lp r.L.length r.lc, .slice r.rp r.R.length r.rc, .int .i64 r.s, .int .i64 r.t, .int .i64 r.h] 26)).alloc (Obj.cells #[.slice r.lp r.L.length r.lc, .slice r.rp r.R.length r.rc, .int .i64 r.s, .int .i64 r.t, .int .i64 r.h] 26)).drew) := (((Gr.alloc _ _).tr (Gr.alloc _ _)).tr (Gr.alloc _ _)).tr (Gr.drew _)
    have HBA := Lib.hid HBA
    have HBB := Lib.hid HBB
    have HBC := Lib.hid HBC
    have HGD := Lib.hid HGD
    go_region_held3 (fun W => W.cell? ⟨w.heap.size, 0, none⟩ = some (.slice r.lp r.L.length r.lc) ∧ W.cell? ⟨w.heap.size, 1, none⟩ = some (.slice r.rp r.R.length r.rc) ∧ W.cell? ⟨w.heap.size, 2, none⟩ = some (.int .i64 r.s) ∧ W.cell? ⟨w.heap.size, 3, none⟩ = some (.int .i64 r.t) ∧ W.cell? ⟨w.heap.size, 4, none⟩ = some (.int .i64 r.h)) (exact cells5 (HB.out.grow (by first | exact Gr.same _ | exact Gr.drew _ | exact (Gr.alloc _ _) | exact (Gr.alloc _ _).tr (Gr.drew _) | exact ((Gr.alloc _ _).tr (Gr.alloc _ _)) | exact ((Gr.alloc _ _).tr (Gr.alloc _ _)).tr (Gr.drew _) | exact (((Gr.alloc _ _).tr (Gr.alloc _ _)).tr (Gr.alloc _ _)) | exact (((Gr.alloc _ _).tr (Gr.alloc _ _)).tr (Gr.alloc _ _)).tr (Gr.drew _)))) (fail)
    all_goals
      go_wp2_with fail
      go_meet
      exact ⟨_, _, _, rfl, rfl, rfl, ⟨by omega, by omega, by omega, by omega, by omega, by omega⟩, ⟨by first | exact HBA.out | exact HBB.out | exact HBC.out, by first | exact HBA.out | exact HBB.out | exact HBC.out, by first | exact HBA.out | exact HBB.out | exact HBC.out⟩, HGD.out⟩
  case rest =>
    obtain ⟨b7, b8, b9, rfl, rfl, rfl, ⟨n1, n2, n3, n4, n5, n6⟩, ⟨h7, h8, h9⟩, hgd⟩ := hcut
    rename World => w3
    rename_i KK hKK
    exact hKK _ _ (lmore_mid r wn bn b7 b8 b9 w w3 hwn hbn h1 h2 HOK.out hn HML.out HMR.out n1 n2 n3 (Nat.lt_of_lt_of_le HB.out.lt n4) (Nat.lt_of_lt_of_le HB.out.lt n5) (Nat.lt_of_lt_of_le HB.out.lt n6) h7 h8 h9 (HB.out.grow hgd) (HG.out.tr hgd))
/-- MatchMore is true, whatever the rows and the numbers are. -/
theorem lmore_any (r : Rr) (which by_ : Int) (w : World) (hw1 : (Lit.int .u8 which).wf = true) (hb1 : (Lit.int .u8 by_).wf = true) (hl : r.L.length ≤ 24 → MksAt r.L r.lp w) (hr : r.R.length ≤ 24 → MksAt r.R r.rp w) :
    Calls Try.prog 11 #[r.val, .int .u8 which, .int .u8 by_] w fun e w' => e = .returned (.bool true) ∧ Below w.heap.size w w' := by
  simp only [Lit.wf, Bool.and_eq_true, decide_eq_true_eq] at hw1 hb1
  obtain ⟨wn, rfl⟩ : ∃ n : Nat, which = n := ⟨which.toNat, by have := hw1.1; simp [IntKind.min, IntKind.signed] at this; omega⟩
  obtain ⟨bn, rfl⟩ : ∃ n : Nat, by_ = n := ⟨by_.toNat, by have := hb1.1; simp [IntKind.min, IntKind.signed] at this; omega⟩
  have hwn : wn ≤ 255 := by have := hw1.2; simp [IntKind.max, IntKind.signed, IntKind.bits] at this; omega
  have hbn : bn ≤ 255 := by have := hb1.2; simp [IntKind.max, IntKind.signed, IntKind.bits] at this; omega
  cases hg : r.great 10 with
  | true => exact lmore_great r wn bn w hl hr hg
  | false =>
    have hb := hg
    unfold Rr.great at hb
    simp only [Bool.or_eq_false_iff, decide_eq_false_iff_not] at hb
    cases hok : r.ok with
    | false => exact lmore_no r wn bn w hl hr hg (by omega) (by omega) hok
    | true =>
      by_cases hn : r.L = []
      · exact lmore_none r wn bn w hl hr hg (by omega) (by omega) hok hn
      · exact lmore_yes r wn bn hwn hbn w hl hr hg (by omega) (by omega) hok (fun e => hn (List.length_eq_zero_iff.1 e))

end Go.Proofs.Ytjlaoiimbhlafaa
