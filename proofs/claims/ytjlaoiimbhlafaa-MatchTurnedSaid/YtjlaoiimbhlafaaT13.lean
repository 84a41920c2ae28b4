import Derived.Test.YtjlaoiimbhlafaaT12
import Derived.Test.YtjlaoiimbhlafaaT11
import Derived.Laws.StructEq
import Derived.IntWalk
import Derived.Deep.RegionHeld3
import Derived.Deep.CutBlock
import Derived.Deep.DeepCutAuto
set_option linter.unusedVariables false
set_option linter.unusedSimpArgs false
namespace Go.Proofs.Ytjlaoiimbhlafaa
open Go.RowKit Go.Shelf

open MW
attribute [local go_sem] Oper.semAt_some run_store_func
attribute [local go_sem ↓] Go.wp_at_zero Go.wp_at_succ
attribute [local go_sem] guard55 guard24 neq55 eql24 neq24
attribute [-go_sem] run_eql_struct run_neq_struct
set_option maxRecDepth 100000 in
set_option maxHeartbeats 8000000 in
theorem lturn_zero (r : Rr) (w : World) (hl : r.L.length ≤ 24 → MksAt r.L r.lp w) (hr : r.R.length ≤ 24 → MksAt r.R r.rp w) (hg : r.great 10 = false) (h1 : r.L.length ≤ 24) (h2 : r.R.length ≤ 24) (hok : r.ok = true) (hz : r.lkd.all0 = 0) :
    Calls Try.prog 12 #[r.val] w fun e w' => e = .returned (.bool true) ∧ Below w.heap.size w w' := by
  have H14 := Lib.hid (fun W (hg : Gr w W) => great10_any r W (fun h => (hl h).grow hg) (fun h => (hr h).grow hg))
  rw [hg] at H14
  have H38 := Lib.hid (fun W (hg : Gr w W) => rows38_is r W ((hl h1).grow hg) ((hr h2).grow hg) true hok)
  have hok2 : r.swap.ok = true := by rw [Rr.swap_ok]; exact hok
  have hsz := Rr.swap_count hok
  have hsz0 : r.swap.lkd.all0 = 0 := by rw [hsz]; exact hz
  have hln : ([] : List (Nat × Nat)).length ≤ 1000 := by simp
  have hf : r.fewest = ([], 0, 4) := by unfold Rr.fewest; rw [if_pos hok, if_pos hz]
  have hfx : r.swap.fewest = ([], 0, 4) := by unfold Rr.fewest; rw [if_pos hok2, if_pos hsz0]
  have hcr : r.counted = (0, 0) := by unfold Rr.counted; rw [if_pos hok, hz]
  have hcx : r.swap.counted = (0, 0) := by unfold Rr.counted; rw [if_pos hok2, hsz, hz]
  have hcy : ∀ q c q2 c2, (r.mirror q c q2 c2).counted = (0, 0) := fun q c q2 c2 => by unfold Rr.counted; rw [if_pos (by rw [Rr.mirror_ok]; exact hok), Rr.mirror_count hok, hz]
  have hhr : r.hides = (0, 0, 4) := by unfold Rr.hides; rw [if_pos hok, if_pos hz]
  have hhx : r.swap.hides = (0, 0, 4) := by unfold Rr.hides; rw [if_pos hok2, if_pos hsz0]
  have hkr : r.can = ((List.range 0).map (fun _ => 0), 4) := by unfold Rr.can; rw [if_pos hok, if_pos hz]; rfl
  have hkx : r.swap.can = ((List.range 0).map (fun _ => 0), 4) := by unfold Rr.can; rw [if_pos hok2, if_pos hsz0]; rfl
  obtain ⟨p1, p2, p3, p4, ⟨p5, p6, p7⟩, p8, p9⟩ := Rr.ok_parts hok
  have HML := Lib.hid (hl h1)
  have HMR := Lib.hid (hr h2)
  have HT := Lib.hid (And.intro p1 p2)
  have HOL := Lib.hid p3
  have HOR := Lib.hid p4
  have HOK := Lib.hid hok
  have HLN := Lib.hid hln
  have HF := Lib.hid hf
  have HFX := Lib.hid hfx
  have HCR := Lib.hid hcr
  have HCX := Lib.hid hcx
  have HCY := Lib.hid hcy
  have HHR := Lib.hid hhr
  have HHX := Lib.hid hhx
  have HKR := Lib.hid hkr
  have HKX := Lib.hid hkx
  clear hl hr hg h1 h2 hok hok2 hsz hsz0 hln hf hfx hcr hcx hcy hhr hhx hkr hkx hz p1 p2 p3 p4 p5 p6 p7 p8 p9
  have HB := Lib.hid (Box.fresh w r.cs 26)
  have HG := Lib.hid (show Gr w (w.alloc (Obj.cells r.cs.toArray 26)) from Gr.alloc _ _)
  unfold Rr.cs at HB HG
  unfold Rr.val at *
  obtain ⟨r0, r1, r2, r3, r4⟩ := cells5 HB.out
  have rl := HB.out.lt
  go_enter Try.func12, Try.ntmps12
  apply wp_seq_k
  intro K1 hK1
  have HK1 := Lib.hid hK1
  clear hK1
  go_wp2_with fail
  refine HK1.out _ _ ?_
  clear HK1
  apply wp_seq_k
  intro K2 hK2
  have HK2 := Lib.hid hK2
  clear hK2
  go_wp2_with (first | (go_at_call 14; (with_reducible refine (H14.out _ (by first | exact HG.out | exact Gr.tr HG.out (Gr.alloc _ _) | exact Gr.tr HG.out ((Gr.alloc _ _).tr (Gr.alloc _ _)) | exact Gr.tr HG.out (Gr.drew _))).mono ?_); rintro e wg ⟨rfl, hb⟩; have HG := Lib.hid (show Gr w wg from by first | exact Gr.tr HG.out hb | exact Gr.tr (HG.out.tr (Gr.alloc _ _)) hb | exact Gr.tr (HG.out.tr ((Gr.alloc _ _).tr (Gr.alloc _ _))) hb | exact Gr.tr (HG.out.tr (Gr.drew _)) hb); have HB := Lib.hid (HB.out.grow (by first | exact hb | exact Gr.tr (Gr.alloc _ _) hb | exact Gr.tr ((Gr.alloc _ _).tr (Gr.alloc _ _)) hb | exact Gr.tr (Gr.drew _) hb)); clear r0 r1 r2 r3 r4 rl; obtain ⟨r0, r1, r2, r3, r4⟩ := cells5 HB.out; have rl := HB.out.lt; clear hb) | (go_at_call 38; (with_reducible refine (H38.out _ (by first | exact HG.out | exact Gr.tr HG.out (Gr.alloc _ _) | exact Gr.tr HG.out ((Gr.alloc _ _).tr (Gr.alloc _ _)) | exact Gr.tr HG.out (Gr.drew _))).mono ?_); rintro e wr ⟨rfl, hb⟩; have HG := Lib.hid (show Gr w wr from by first | exact Gr.tr HG.out hb | exact Gr.tr (HG.out.tr (Gr.alloc _ _)) hb | exact Gr.tr (HG.out.tr ((Gr.alloc _ _).tr (Gr.alloc _ _))) hb | exact Gr.tr (HG.out.tr (Gr.drew _)) hb); have HB := Lib.hid (HB.out.grow (by first | exact hb | exact Gr.tr (Gr.alloc _ _) hb | exact Gr.tr ((Gr.alloc _ _).tr (Gr.alloc _ _)) hb | exact Gr.tr (Gr.drew _) hb)); clear r0 r1 r2 r3 r4 rl; obtain ⟨r0, r1, r2, r3, r4⟩ := cells5 HB.out; have rl := HB.out.lt; clear hb))
  exact HK2.out _ _ (lturn_x_zero r [] [] 0 0 0 0 w _ HOK.out HB.out HG.out HML.out HMR.out HLN.out HF.out HFX.out HCR.out HCX.out HCY.out HHR.out HHX.out HKR.out HKX.out HT.out HOL.out HOR.out)
set_option maxRecDepth 100000 in
set_option maxHeartbeats 8000000 in
theorem lturn_yes (r : Rr) (w : World) (hl : r.L.length ≤ 24 → MksAt r.L r.lp w) (hr : r.R.length ≤ 24 → MksAt r.R r.rp w) (hg : r.great 10 = false) (h1 : r.L.length ≤ 24) (h2 : r.R.length ≤ 24) (hok : r.ok = true) (hz : r.lkd.all0 ≠ 0) :
    Calls Try.prog 12 #[r.val] w fun e w' => e = .returned (.bool true) ∧ Below w.heap.size w w' := by
  have H14 := Lib.hid (fun W (hg : Gr w W) => great10_any r W (fun h => (hl h).grow hg) (fun h => (hr h).grow hg))
  rw [hg] at H14
  have H38 := Lib.hid (fun W (hg : Gr w W) => rows38_is r W ((hl h1).grow hg) ((hr h2).grow hg) true hok)
  have hok2 : r.swap.ok = true := by rw [Rr.swap_ok]; exact hok
  have hsz := Rr.swap_count hok
  have hsz0 : r.swap.lkd.all0 ≠ 0 := by rw [hsz]; exact hz
  have hln : (r.lkd.wh r.lkd.few).fst.length ≤ 1000 := by
    have hw : r.ways ≠ [] := fun e => hz (by rw [Rr.all0_is hok]; show r.ways.length = 0; rw [e]; rfl)
    rw [Rr.fst_is hok hw]
    have h1 := (Rr.few_is hok hw).1
    omega
  have hf : r.fewest = ((r.lkd.wh r.lkd.few).fst, r.lkd.few, 0) := by unfold Rr.fewest; rw [if_pos hok, if_neg hz]
  have hfx : r.swap.fewest = ((r.swap.lkd.wh r.swap.lkd.few).fst, r.lkd.few, 0) := by unfold Rr.fewest; rw [if_pos hok2, if_neg hsz0, Rr.swap_few hok]
  have hcr : r.counted = (r.lkd.all0, 0) := by unfold Rr.counted; rw [if_pos hok]
  have hcx : r.swap.counted = (r.lkd.all0, 0) := by unfold Rr.counted; rw [if_pos hok2, hsz]
  have hcy : ∀ q c q2 c2, (r.mirror q c q2 c2).counted = (r.lkd.all0, 0) := fun q c q2 c2 => by unfold Rr.counted; rw [if_pos (by rw [Rr.mirror_ok]; exact hok), Rr.mirror_count hok]
  have hhr : r.hides = (r.hdL, r.hdR, 0) := by unfold Rr.hides; rw [if_pos hok, if_neg hz]
  have hhx : r.swap.hides = (r.hdR, r.hdL, 0) := by unfold Rr.hides; rw [if_pos hok2, if_neg hsz0, Rr.swap_hdL hok, Rr.swap_hdR hok]
  have hkr : r.can = ((List.range r.L.length).map (fun j => (r.lkd.ptn j : Int)), 0) := by unfold Rr.can; rw [if_pos hok, if_neg hz]
  have hkx : r.swap.can = ((List.range r.R.length).map (fun j => (r.swap.lkd.ptn j : Int)), 0) := by unfold Rr.can; rw [if_pos hok2, if_neg hsz0]; rfl
  obtain ⟨p1, p2, p3, p4, ⟨p5, p6, p7⟩, p8, p9⟩ := Rr.ok_parts hok
  have HML := Lib.hid (hl h1)
  have HMR := Lib.hid (hr h2)
  have HT := Lib.hid (And.intro p1 p2)
  have HOL := Lib.hid p3
  have HOR := Lib.hid p4
  have HOK := Lib.hid hok
  have HLN := Lib.hid hln
  have HF := Lib.hid hf
  have HFX := Lib.hid hfx
  have HCR := Lib.hid hcr
  have HCX := Lib.hid hcx
  have HCY := Lib.hid hcy
  have HHR := Lib.hid hhr
  have HHX := Lib.hid hhx
  have HKR := Lib.hid hkr
  have HKX := Lib.hid hkx
  clear hl hr hg h1 h2 hok hok2 hsz hsz0 hln hf hfx hcr hcx hcy hhr hhx hkr hkx hz p1 p2 p3 p4 p5 p6 p7 p8 p9
  have HB := Lib.hid (Box.fresh w r.cs 26)
  have HG := Lib.hid (show Gr w (w.alloc (Obj.cells r.cs.toArray 26)) from Gr.alloc _ _)
  unfold Rr.cs at HB HG
  unfold Rr.val at *
  obtain ⟨r0, r1, r2, r3, r4⟩ := cells5 HB.out
  have rl := HB.out.lt
  go_enter Try.func12, Try.ntmps12
  apply wp_seq_k
  intro K1 hK1
  have HK1 := Lib.hid hK1
  clear hK1
  go_wp2_with fail
  refine HK1.out _ _ ?_
  clear HK1
  apply wp_seq_k
  intro K2 hK2
  have HK2 := Lib.hid hK2
  clear hK2
  go_wp2_with (first | (go_at_call 14; (with_reducible refine (H14.out _ (by first | exact HG.out | exact Gr.tr HG.out (Gr.alloc _ _) | exact Gr.tr HG.out ((Gr.alloc _ _).tr (Gr.alloc _ _)) | exact Gr.tr HG.out (Gr.drew _))).mono ?_); rintro e wg ⟨rfl, hb⟩; have HG := Lib.hid (show Gr w wg from by first | exact Gr.tr HG.out hb | exact Gr.tr (HG.out.tr (Gr.alloc _ _)) hb | exact Gr.tr (HG.out.tr ((Gr.alloc _ _).tr (Gr.alloc _ _))) hb | exact Gr.tr (HG.out.tr (Gr.drew _)) hb); have HB := Lib.hid (HB.out.grow (by first | exact hb | exact Gr.tr (Gr.alloc _ _) hb | exact Gr.tr ((Gr.alloc _ _).tr (Gr.alloc _ _)) hb | exact Gr.tr (Gr.drew _) hb)); clear r0 r1 r2 r3 r4 rl; obtain ⟨r0, r1, r2, r3, r4⟩ := cells5 HB.out; have rl := HB.out.lt; clear hb) | (go_at_call 38; (with_reducible refine (H38.out _ (by first | exact HG.out | exact Gr.tr HG.out (Gr.alloc _ _) | exact Gr.tr HG.out ((Gr.alloc _ _).tr (Gr.alloc _ _)) | exact Gr.tr HG.out (Gr.drew _))).mono ?_); rintro e wr ⟨rfl, hb⟩; have HG := Lib.hid (show Gr w wr from by first | exact Gr.tr HG.out hb | exact Gr.tr (HG.out.tr (Gr.alloc _ _)) hb | exact Gr.tr (HG.out.tr ((Gr.alloc _ _).tr (Gr.alloc _ _))) hb | exact Gr.tr (HG.out.tr (Gr.drew _)) hb); have HB := Lib.hid (HB.out.grow (by first | exact hb | exact Gr.tr (Gr.alloc _ _) hb | exact Gr.tr ((Gr.alloc _ _).tr (Gr.alloc _ _)) hb | exact Gr.tr (Gr.drew _) hb)); clear r0 r1 r2 r3 r4 rl; obtain ⟨r0, r1, r2, r3, r4⟩ := cells5 HB.out; have rl := HB.out.lt; clear hb))
  exact HK2.out _ _ (lturn_x_yes r (r.lkd.wh r.lkd.few).fst (r.swap.lkd.wh r.swap.lkd.few).fst r.lkd.few r.lkd.all0 r.hdL r.hdR w _ HOK.out HB.out HG.out HML.out HMR.out HLN.out HF.out HFX.out HCR.out HCX.out HCY.out HHR.out HHX.out HKR.out HKX.out HT.out HOL.out HOR.out)
/-- MatchTurned is true, whatever the rows are. -/
theorem lturn_any (r : Rr) (w : World) (hl : r.L.length ≤ 24 → MksAt r.L r.lp w) (hr : r.R.length ≤ 24 → MksAt r.R r.rp w) :
    Calls Try.prog 12 #[r.val] w fun e w' => e = .returned (.bool true) ∧ Below w.heap.size w w' := by
  cases hg : r.great 10 with
  | true => exact lturn_great r w hl hr hg
  | false =>
    have hb := hg
    unfold Rr.great at hb
    simp only [Bool.or_eq_false_iff, decide_eq_false_iff_not] at hb
    cases hok : r.ok with
    | false => exact lturn_no r w hl hr hg (by omega) (by omega) hok
    | true =>
      by_cases hz : r.lkd.all0 = 0
      · exact lturn_zero r w hl hr hg (by omega) (by omega) hok hz
      · exact lturn_yes r w hl hr hg (by omega) (by omega) hok hz

end Go.Proofs.Ytjlaoiimbhlafaa
