import Derived.Test.YtjlaoiimbhlafaaQ1
set_option linter.unusedVariables false
set_option linter.unusedSimpArgs false
namespace Go.Proofs.Ytjlaoiimbhlafaa
open Go.RowKit Go.Shelf

open MW
attribute [local go_sem] Oper.semAt_some run_store_func
attribute [local go_sem ↓] Go.wp_at_zero Go.wp_at_succ
attribute [local go_sem] guard55 guard24 neq55 eql24 neq24
attribute [-go_sem] run_eql_struct run_neq_struct
set_option maxRecDepth 100000 in
set_option maxHeartbeats 8000000 in
theorem lfew_great (r : Rr) (py : Option Addr) (ny cy : Nat) (w : World) (hl : r.L.length ≤ 24 → MksAt r.L r.lp w) (hr : r.R.length ≤ 24 → MksAt r.R r.rp w) (hg : r.great 10 = true) :
    Calls Try.prog 8 #[r.val, .slice py ny cy] w fun e w' => e = .returned (.bool true) ∧ Below w.heap.size w w' := by
  have H14 := Lib.hid (fun W (hg : Gr w W) => great10_any r W (fun h => (hl h).grow hg) (fun h => (hr h).grow hg))
  rw [hg] at H14
  clear hl hr hg
  have HB := Lib.hid (Box.fresh w r.cs 26)
  have HG := Lib.hid (show Gr w (w.alloc (Obj.cells r.cs.toArray 26)) from Gr.alloc _ _)
  unfold Rr.cs at HB HG
  unfold Rr.val at *
  obtain ⟨r0, r1, r2, r3, r4⟩ := cells5 HB.out
  have rl := HB.out.lt
  go_enter Try.func8, Try.ntmps8
  go_wp2_with (first | (go_at_call 14; (with_reducible refine (H14.out _ (by first | exact HG.out | exact Gr.tr HG.out (Gr.alloc _ _) | exact Gr.tr HG.out ((Gr.alloc _ _).tr (Gr.alloc _ _)) | exact Gr.tr HG.out (Gr.drew _))).mono ?_); rintro e wg ⟨rfl, hb⟩; have HG := Lib.hid (show Gr w wg from by first | exact Gr.tr HG.out hb | exact Gr.tr (HG.out.tr (Gr.alloc _ _)) hb | exact Gr.tr (HG.out.tr ((Gr.alloc _ _).tr (Gr.alloc _ _))) hb | exact Gr.tr (HG.out.tr (Gr.drew _)) hb); have HB := Lib.hid (HB.out.grow (by first | exact hb | exact Gr.tr (Gr.alloc _ _) hb | exact Gr.tr ((Gr.alloc _ _).tr (Gr.alloc _ _)) hb | exact Gr.tr (Gr.drew _) hb)); clear r0 r1 r2 r3 r4 rl; obtain ⟨r0, r1, r2, r3, r4⟩ := cells5 HB.out; have rl := HB.out.lt; clear hb) | (go_at_call 15; (with_reducible refine (alive_any _).mono ?_); rintro e wa ⟨rfl, hb⟩; have HG := Lib.hid (show Gr w wa from by first | exact Gr.tr HG.out hb | exact Gr.tr (HG.out.tr (Gr.alloc _ _)) hb | exact Gr.tr (HG.out.tr ((Gr.alloc _ _).tr (Gr.alloc _ _))) hb | exact Gr.tr (HG.out.tr (Gr.drew _)) hb); have HB := Lib.hid (HB.out.grow (by first | exact hb | exact Gr.tr (Gr.alloc _ _) hb | exact Gr.tr ((Gr.alloc _ _).tr (Gr.alloc _ _)) hb | exact Gr.tr (Gr.drew _) hb)); clear r0 r1 r2 r3 r4 rl; obtain ⟨r0, r1, r2, r3, r4⟩ := cells5 HB.out; have rl := HB.out.lt; clear hb) | (go_at_call 15; (with_reducible refine (alive_any _).mono ?_); rintro e wa ⟨rfl, hb⟩; have HG := Lib.hid (show Gr w wa from by first | exact Gr.tr HG.out hb | exact Gr.tr (HG.out.tr (Gr.alloc _ _)) hb | exact Gr.tr (HG.out.tr ((Gr.alloc _ _).tr (Gr.alloc _ _))) hb | exact Gr.tr (HG.out.tr (Gr.drew _)) hb); have HB := Lib.hid (HB.out.grow (by first | exact hb | exact Gr.tr (Gr.alloc _ _) hb | exact Gr.tr ((Gr.alloc _ _).tr (Gr.alloc _ _)) hb | exact Gr.tr (Gr.drew _) hb)); clear r0 r1 r2 r3 r4 rl; obtain ⟨r0, r1, r2, r3, r4⟩ := cells5 HB.out; have rl := HB.out.lt; clear hb))
  go_ret
  exact ⟨rfl, HG.out⟩
set_option maxRecDepth 100000 in
set_option maxHeartbeats 8000000 in
theorem lfew_no (r : Rr) (py : Option Addr) (ny cy : Nat) (w : World) (hl : r.L.length ≤ 24 → MksAt r.L r.lp w) (hr : r.R.length ≤ 24 → MksAt r.R r.rp w) (hg : r.great 10 = false) (h1 : r.L.length ≤ 24) (h2 : r.R.length ≤ 24) (hok : r.ok = false) :
    Calls Try.prog 8 #[r.val, .slice py ny cy] w fun e w' => e = .returned (.bool true) ∧ Below w.heap.size w w' := by
  have H14 := Lib.hid (fun W (hg : Gr w W) => great10_any r W (fun h => (hl h).grow hg) (fun h => (hr h).grow hg))
  rw [hg] at H14
  have H38 := Lib.hid (fun W (hg : Gr w W) => rows38_is r W ((hl h1).grow hg) ((hr h2).grow hg) false hok)
  have hf : r.fewest = ([], 0, 1) := by unfold Rr.fewest; rw [hok]; rfl
  have hct : r.counted = (0, 1) := by unfold Rr.counted; rw [hok]; rfl
  have H20 := Lib.hid (fun W (hg : Gr w W) => few20 r W ((hl h1).grow hg) ((hr h2).grow hg) hf)
  have h18 := fun W (hg : Gr w W) => Count_any r W ((hl h1).grow hg) ((hr h2).grow hg)
  rw [hct] at h18
  have H18 := Lib.hid h18
  clear hl hr hg h1 h2 hok hf hct h18
  have HB := Lib.hid (Box.fresh w r.cs 26)
  have HG := Lib.hid (show Gr w (w.alloc (Obj.cells r.cs.toArray 26)) from Gr.alloc _ _)
  unfold Rr.cs at HB HG
  unfold Rr.val at *
  obtain ⟨r0, r1, r2, r3, r4⟩ := cells5 HB.out
  have rl := HB.out.lt
  go_enter Try.func8, Try.ntmps8
  go_wp2_with (first | (go_at_call 14; (with_reducible refine (H14.out _ (by first | exact HG.out | exact Gr.tr HG.out (Gr.alloc _ _) | exact Gr.tr HG.out ((Gr.alloc _ _).tr (Gr.alloc _ _)) | exact Gr.tr HG.out (Gr.drew _))).mono ?_); rintro e wg ⟨rfl, hb⟩; have HG := Lib.hid (show Gr w wg from by first | exact Gr.tr HG.out hb | exact Gr.tr (HG.out.tr (Gr.alloc _ _)) hb | exact Gr.tr (HG.out.tr ((Gr.alloc _ _).tr (Gr.alloc _ _))) hb | exact Gr.tr (HG.out.tr (Gr.drew _)) hb); have HB := Lib.hid (HB.out.grow (by first | exact hb | exact Gr.tr (Gr.alloc _ _) hb | exact Gr.tr ((Gr.alloc _ _).tr (Gr.alloc _ _)) hb | exact Gr.tr (Gr.drew _) hb)); clear r0 r1 r2 r3 r4 rl; obtain ⟨r0, r1, r2, r3, r4⟩ := cells5 HB.out; have rl := HB.out.lt; clear hb) | (go_at_call 20; (with_reducible refine (H20.out _ (by first | exact HG.out | exact Gr.tr HG.out (Gr.alloc _ _) | exact Gr.tr HG.out ((Gr.alloc _ _).tr (Gr.alloc _ _)) | exact Gr.tr HG.out (Gr.drew _))).mono ?_); rintro e wf ⟨⟨v20, rfl, hv⟩, hb⟩; have HG := Lib.hid (show Gr w wf from by first | exact Gr.tr HG.out hb | exact Gr.tr (HG.out.tr (Gr.alloc _ _)) hb | exact Gr.tr (HG.out.tr ((Gr.alloc _ _).tr (Gr.alloc _ _))) hb | exact Gr.tr (HG.out.tr (Gr.drew _)) hb); have HB := Lib.hid (HB.out.grow (by first | exact hb | exact Gr.tr (Gr.alloc _ _) hb | exact Gr.tr ((Gr.alloc _ _).tr (Gr.alloc _ _)) hb | exact Gr.tr (Gr.drew _) hb)); clear r0 r1 r2 r3 r4 rl; obtain ⟨r0, r1, r2, r3, r4⟩ := cells5 HB.out; have rl := HB.out.lt; obtain ⟨pa, ka, rfl, -⟩ := id hv; have HA := Lib.hid hv; clear hv; clear hb) | (go_at_call 18; (with_reducible refine (H18.out _ (by first | exact HG.out | exact Gr.tr HG.out (Gr.alloc _ _) | exact Gr.tr HG.out ((Gr.alloc _ _).tr (Gr.alloc _ _)) | exact Gr.tr HG.out (Gr.drew _))).mono ?_); rintro e wc ⟨rfl, hb⟩; have HG := Lib.hid (show Gr w wc from by first | exact Gr.tr HG.out hb | exact Gr.tr (HG.out.tr (Gr.alloc _ _)) hb | exact Gr.tr (HG.out.tr ((Gr.alloc _ _).tr (Gr.alloc _ _))) hb | exact Gr.tr (HG.out.tr (Gr.drew _)) hb); have HB := Lib.hid (HB.out.grow (by first | exact hb | exact Gr.tr (Gr.alloc _ _) hb | exact Gr.tr ((Gr.alloc _ _).tr (Gr.alloc _ _)) hb | exact Gr.tr (Gr.drew _) hb)); (try have HA := Lib.hid (HA.out.grow (by first | exact hb | exact Gr.tr (Gr.alloc _ _) hb | exact Gr.tr ((Gr.alloc _ _).tr (Gr.alloc _ _)) hb | exact Gr.tr (Gr.drew _) hb))); clear r0 r1 r2 r3 r4 rl; obtain ⟨r0, r1, r2, r3, r4⟩ := cells5 HB.out; have rl := HB.out.lt; clear hb) | (go_at_call 38; (with_reducible refine (H38.out _ (by first | exact HG.out | exact Gr.tr HG.out (Gr.alloc _ _) | exact Gr.tr HG.out ((Gr.alloc _ _).tr (Gr.alloc _ _)) | exact Gr.tr HG.out (Gr.drew _))).mono ?_); rintro e wr ⟨rfl, hb⟩; have HG := Lib.hid (show Gr w wr from by first | exact Gr.tr HG.out hb | exact Gr.tr (HG.out.tr (Gr.alloc _ _)) hb | exact Gr.tr (HG.out.tr ((Gr.alloc _ _).tr (Gr.alloc _ _))) hb | exact Gr.tr (HG.out.tr (Gr.drew _)) hb); have HB := Lib.hid (HB.out.grow (by first | exact hb | exact Gr.tr (Gr.alloc _ _) hb | exact Gr.tr ((Gr.alloc _ _).tr (Gr.alloc _ _)) hb | exact Gr.tr (Gr.drew _) hb)); (try have HA := Lib.hid (HA.out.grow (by first | exact hb | exact Gr.tr (Gr.alloc _ _) hb | exact Gr.tr ((Gr.alloc _ _).tr (Gr.alloc _ _)) hb | exact Gr.tr (Gr.drew _) hb))); clear r0 r1 r2 r3 r4 rl; obtain ⟨r0, r1, r2, r3, r4⟩ := cells5 HB.out; have rl := HB.out.lt; clear hb) | (go_at_call 15; (with_reducible refine (alive_any _).mono ?_); rintro e wa ⟨rfl, hb⟩; have HG := Lib.hid (show Gr w wa from by first | exact Gr.tr HG.out hb | exact Gr.tr (HG.out.tr (Gr.alloc _ _)) hb | exact Gr.tr (HG.out.tr ((Gr.alloc _ _).tr (Gr.alloc _ _))) hb | exact Gr.tr (HG.out.tr (Gr.drew _)) hb); have HB := Lib.hid (HB.out.grow (by first | exact hb | exact Gr.tr (Gr.alloc _ _) hb | exact Gr.tr ((Gr.alloc _ _).tr (Gr.alloc _ _)) hb | exact Gr.tr (Gr.drew _) hb)); clear r0 r1 r2 r3 r4 rl; obtain ⟨r0, r1, r2, r3, r4⟩ := cells5 HB.out; have rl := HB.out.lt; clear hb))
  go_ret
  exact ⟨rfl, HG.out⟩
set_option maxRecDepth 100000 in
set_option maxHeartbeats 8000000 in
theorem lfew_zero (r : Rr) (py : Option Addr) (ny cy : Nat) (w : World) (hl : r.L.length ≤ 24 → MksAt r.L r.lp w) (hr : r.R.length ≤ 24 → MksAt r.R r.rp w) (hg : r.great 10 = false) (h1 : r.L.length ≤ 24) (h2 : r.R.length ≤ 24) (hok : r.ok = true) (hz : r.lkd.all0 = 0) :
    Calls Try.prog 8 #[r.val, .slice py ny cy] w fun e w' => e = .returned (.bool true) ∧ Below w.heap.size w w' := by
  have H14 := Lib.hid (fun W (hg : Gr w W) => great10_any r W (fun h => (hl h).grow hg) (fun h => (hr h).grow hg))
  rw [hg] at H14
  have H38 := Lib.hid (fun W (hg : Gr w W) => rows38_is r W ((hl h1).grow hg) ((hr h2).grow hg) true hok)
  have hf : r.fewest = ([], 0, 4) := by unfold Rr.fewest; rw [if_pos hok, if_pos hz]
  have hct : r.counted = (0, 0) := by unfold Rr.counted; rw [if_pos hok, hz]
  have H20 := Lib.hid (fun W (hg : Gr w W) => few20 r W ((hl h1).grow hg) ((hr h2).grow hg) hf)
  have h18 := fun W (hg : Gr w W) => Count_any r W ((hl h1).grow hg) ((hr h2).grow hg)
  rw [hct] at h18
  have H18 := Lib.hid h18
  clear hl hr hg h1 h2 hok hz hf hct h18
  have HB := Lib.hid (Box.fresh w r.cs 26)
  have HG := Lib.hid (show Gr w (w.alloc (Obj.cells r.cs.toArray 26)) from Gr.alloc _ _)
  unfold Rr.cs at HB HG
  unfold Rr.val at *
  obtain ⟨r0, r1, r2, r3, r4⟩ := cells5 HB.out
  have rl := HB.out.lt
  go_enter Try.func8, Try.ntmps8
  go_wp2_with (first | (go_at_call 14; (with_reducible refine (H14.out _ (by first | exact HG.out | exact Gr.tr HG.out (Gr.alloc _ _) | exact Gr.tr HG.out ((Gr.alloc _ _).tr (Gr.alloc _ _)) | exact Gr.tr HG.out (Gr.drew _))).mono ?_); rintro e wg ⟨rfl, hb⟩; have HG := Lib.hid (show Gr w wg from by first | exact Gr.tr HG.out hb | exact Gr.tr (HG.out.tr (Gr.alloc _ _)) hb | exact Gr.tr (HG.out.tr ((Gr.alloc _ _).tr (Gr.alloc _ _))) hb | exact Gr.tr (HG.out.tr (Gr.drew _)) hb); have HB := Lib.hid (HB.out.grow (by first | exact hb | exact Gr.tr (Gr.alloc _ _) hb | exact Gr.tr ((Gr.alloc _ _).tr (Gr.alloc _ _)) hb | exact Gr.tr (Gr.drew _) hb)); clear r0 r1 r2 r3 r4 rl; obtain ⟨r0, r1, r2, r3, r4⟩ := cells5 HB.out; have rl := HB.out.lt; clear hb) | (go_at_call 20; (with_reducible refine (H20.out _ (by first | exact HG.out | exact Gr.tr HG.out (Gr.alloc _ _) | exact Gr.tr HG.out ((Gr.alloc _ _).tr (Gr.alloc _ _)) | exact Gr.tr HG.out (Gr.drew _))).mono ?_); rintro e wf ⟨⟨v20, rfl, hv⟩, hb⟩; have HG := Lib.hid (show Gr w wf from by first | exact Gr.tr HG.out hb | exact Gr.tr (HG.out.tr (Gr.alloc _ _)) hb | exact Gr.tr (HG.out.tr ((Gr.alloc _ _).tr (Gr.alloc _ _))) hb | exact Gr.tr (HG.out.tr (Gr.drew _)) hb); have HB := Lib.hid (HB.out.grow (by first | exact hb | exact Gr.tr (Gr.alloc _ _) hb | exact Gr.tr ((Gr.alloc _ _).tr (Gr.alloc _ _)) hb | exact Gr.tr (Gr.drew _) hb)); clear r0 r1 r2 r3 r4 rl; obtain ⟨r0, r1, r2, r3, r4⟩ := cells5 HB.out; have rl := HB.out.lt; obtain ⟨pa, ka, rfl, -⟩ := id hv; have HA := Lib.hid hv; clear hv; clear hb) | (go_at_call 18; (with_reducible refine (H18.out _ (by first | exact HG.out | exact Gr.tr HG.out (Gr.alloc _ _) | exact Gr.tr HG.out ((Gr.alloc _ _).tr (Gr.alloc _ _)) | exact Gr.tr HG.out (Gr.drew _))).mono ?_); rintro e wc ⟨rfl, hb⟩; have HG := Lib.hid (show Gr w wc from by first | exact Gr.tr HG.out hb | exact Gr.tr (HG.out.tr (Gr.alloc _ _)) hb | exact Gr.tr (HG.out.tr ((Gr.alloc _ _).tr (Gr.alloc _ _))) hb | exact Gr.tr (HG.out.tr (Gr.drew _)) hb); have HB := Lib.hid (HB.out.grow (by first | exact hb | exact Gr.tr (Gr.alloc _ _) hb | exact Gr.tr ((Gr.alloc _ _).tr (Gr.alloc _ _)) hb | exact Gr.tr (Gr.drew _) hb)); (try have HA := Lib.hid (HA.out.grow (by first | exact hb | exact Gr.tr (Gr.alloc _ _) hb | exact Gr.tr ((Gr.alloc _ _).tr (Gr.alloc _ _)) hb | exact Gr.tr (Gr.drew _) hb))); clear r0 r1 r2 r3 r4 rl; obtain ⟨r0, r1, r2, r3, r4⟩ := cells5 HB.out; have rl := HB.out.lt; clear hb) | (go_at_call 38; (with_reducible refine (H38.out _ (by first | exact HG.out | exact Gr.tr HG.out (Gr.alloc _ _) | exact Gr.tr HG.out ((Gr.alloc _ _).tr (Gr.alloc _ _)) | exact Gr.tr HG.out (Gr.drew _))).mono ?_); rintro e wr ⟨rfl, hb⟩; have HG := Lib.hid (show Gr w wr from by first | exact Gr.tr HG.out hb | exact Gr.tr (HG.out.tr (Gr.alloc _ _)) hb | exact Gr.tr (HG.out.tr ((Gr.alloc _ _).tr (Gr.alloc _ _))) hb | exact Gr.tr (HG.out.tr (Gr.drew _)) hb); have HB := Lib.hid (HB.out.grow (by first | exact hb | exact Gr.tr (Gr.alloc _ _) hb | exact Gr.tr ((Gr.alloc _ _).tr (Gr.alloc _ _)) hb | exact Gr.tr (Gr.drew _) hb)); (try have HA := Lib.hid (HA.out.grow (by first | exact hb | exact Gr.tr (Gr.alloc _ _) hb | exact Gr.tr ((Gr.alloc _ _).tr (Gr.alloc _ _)) hb | exact Gr.tr (Gr.drew _) hb))); clear r0 r1 r2 r3 r4 rl; obtain ⟨r0, r1, r2, r3, r4⟩ := cells5 HB.out; have rl := HB.out.lt; clear hb) | (go_at_call 15; (with_reducible refine (alive_any _).mono ?_); rintro e wa ⟨rfl, hb⟩; have HG := Lib.hid (show Gr w wa from by first | exact Gr.tr HG.out hb | exact Gr.tr (HG.out.tr (Gr.alloc _ _)) hb | exact Gr.tr (HG.out.tr ((Gr.alloc _ _).tr (Gr.alloc _ _))) hb | exact Gr.tr (HG.out.tr (Gr.drew _)) hb); have HB := Lib.hid (HB.out.grow (by first | exact hb | exact Gr.tr (Gr.alloc _ _) hb | exact Gr.tr ((Gr.alloc _ _).tr (Gr.alloc _ _)) hb | exact Gr.tr (Gr.drew _) hb)); clear r0 r1 r2 r3 r4 rl; obtain ⟨r0, r1, r2, r3, r4⟩ := cells5 HB.out; have rl := HB.out.lt; clear hb))
  go_ret
  exact ⟨rfl, HG.out⟩

end Go.Proofs.Ytjlaoiimbhlafaa
