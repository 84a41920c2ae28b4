import Derived.Test.YtjlaoiimbhlafaaK7
set_option linter.unusedVariables false
set_option linter.unusedSimpArgs false
namespace Go.Proofs.Ytjlaoiimbhlafaa
open Go.RowKit Go.Shelf

open MW
attribute [local go_sem] Oper.semAt_some run_store_func
attribute [local go_sem ↓] Go.wp_at_zero Go.wp_at_succ
theorem Rr.mx_zero (r : Rr) (i : Nat) : ∀ m, r.mx i m = 0 → r.sm i m = 0
  | 0, _ => rfl
  | m + 1, h => by
    rw [Rr.mx_succ] at h
    have := Rr.mx_zero r i m (by omega)
    rw [Rr.sm_succ]
    omega
/-- what Ask hands back where there is more than one way -/
theorem Rr.ask_spec {r : Rr} (hok : r.ok = true) (h2 : 2 ≤ r.ways.length) (hL : 0 < r.L.length) : ∃ bi bn : Nat, r.ask = (bi, bn, 0) ∧ bi < r.L.length ∧ 1 ≤ bn ∧ bn ≤ r.ways.length ∧ r.mx bi (r.R.length + 1) = bn ∧ (∀ j, j < r.L.length → bn ≤ r.mx j (r.R.length + 1)) ∧ ∀ j, j < bi → bn < r.mx j (r.R.length + 1) := by
  have e : ∀ i, i < r.L.length → r.lkd.lvs i = r.mx i (r.R.length + 1) := fun i hi => Rr.lvs_is hok hi
  have hle : ∀ i, r.mx i (r.R.length + 1) ≤ r.ways.length := fun i => by
    have := Rr.mx_le r i (r.R.length + 1)
    rw [Rr.sm_all] at this
    exact this
  have hpos : ∀ i, 1 ≤ r.mx i (r.R.length + 1) := fun i => by
    rcases Nat.eq_zero_or_pos (r.mx i (r.R.length + 1)) with h | h
    · have := Rr.mx_zero r i _ h
      rw [Rr.sm_all] at this
      omega
    · exact h
  have ha : r.lkd.all0 = r.ways.length := Rr.all0_is hok
  refine ⟨_, _, by unfold Rr.ask; rw [if_pos hok, if_neg (by omega), if_neg (by omega)], ?_⟩
  rcases fstMin_spec r.lkd.lvs (r.lkd.all0 + 1) r.L.length with ⟨h3, h4⟩ | ⟨h3, h4, h5, h6⟩
  · have := h4 0 hL
    rw [e 0 hL] at this
    have := hle 0
    omega
  · rw [e _ h3] at h4
    refine ⟨h3, by rw [← h4]; exact hpos _, by rw [← h4]; exact hle _, h4, fun j hj => ?_, fun j hj => ?_⟩
    · rw [← e j hj]; exact h5 j hj
    · rw [← e j (by omega)]; exact h6 j hj
set_option maxRecDepth 100000 in
set_option maxHeartbeats 8000000 in
theorem lask_great (r : Rr) (b : Nat) (w : World) (hl : r.L.length ≤ 24 → MksAt r.L r.lp w) (hr : r.R.length ≤ 24 → MksAt r.R r.rp w) (hg : r.great 10 = true) :
    Calls Try.prog 10 #[r.val, .int .u8 b] w fun e w' => e = .returned (.bool true) ∧ Below w.heap.size w w' := by
  have H14 := Lib.hid (fun W (hg : Gr w W) => great10_any r W (fun h => (hl h).grow hg) (fun h => (hr h).grow hg))
  rw [hg] at H14
  clear hl hr hg
  have HB := Lib.hid (Box.fresh w r.cs 26)
  have HG := Lib.hid (show Gr w (w.alloc (Obj.cells r.cs.toArray 26)) from Gr.alloc _ _)
  unfold Rr.cs at HB HG
  unfold Rr.val at *
  obtain ⟨r0, r1, r2, r3, r4⟩ := cells5 HB.out
  have rl := HB.out.lt
  go_enter Try.func10, Try.ntmps10
  go_wp2_with (first | (go_at_call 14; (with_reducible refine (H14.out _ (by first | exact HG.out | exact Gr.tr HG.out (Gr.alloc _ _) | exact Gr.tr HG.out ((Gr.alloc _ _).tr (Gr.alloc _ _)) | exact Gr.tr HG.out (Gr.drew _))).mono ?_); rintro e wg ⟨rfl, hb⟩; have HG := Lib.hid (show Gr w wg from by first | exact Gr.tr HG.out hb | exact Gr.tr (HG.out.tr (Gr.alloc _ _)) hb | exact Gr.tr (HG.out.tr ((Gr.alloc _ _).tr (Gr.alloc _ _))) hb | exact Gr.tr (HG.out.tr (Gr.drew _)) hb); have HB := Lib.hid (HB.out.grow (by first | exact hb | exact Gr.tr (Gr.alloc _ _) hb | exact Gr.tr ((Gr.alloc _ _).tr (Gr.alloc _ _)) hb | exact Gr.tr (Gr.drew _) hb)); clear r0 r1 r2 r3 r4 rl; obtain ⟨r0, r1, r2, r3, r4⟩ := cells5 HB.out; have rl := HB.out.lt; clear hb) | (go_at_call 15; (with_reducible refine (alive_any _).mono ?_); rintro e wa ⟨rfl, hb⟩; have HG := Lib.hid (show Gr w wa from by first | exact Gr.tr HG.out hb | exact Gr.tr (HG.out.tr (Gr.alloc _ _)) hb | exact Gr.tr (HG.out.tr ((Gr.alloc _ _).tr (Gr.alloc _ _))) hb | exact Gr.tr (HG.out.tr (Gr.drew _)) hb); have HB := Lib.hid (HB.out.grow (by first | exact hb | exact Gr.tr (Gr.alloc _ _) hb | exact Gr.tr ((Gr.alloc _ _).tr (Gr.alloc _ _)) hb | exact Gr.tr (Gr.drew _) hb)); clear r0 r1 r2 r3 r4 rl; obtain ⟨r0, r1, r2, r3, r4⟩ := cells5 HB.out; have rl := HB.out.lt; clear hb))
  go_ret
  exact ⟨rfl, HG.out⟩
set_option maxRecDepth 100000 in
set_option maxHeartbeats 8000000 in
theorem lask_bad (r : Rr) (b : Nat) (w : World) (hl : MksAt r.L r.lp w) (hr : MksAt r.R r.rp w) (hgr : r.great 10 = false) (hok : r.ok = false) :
    Calls Try.prog 10 #[r.val, .int .u8 b] w fun e w' => e = .returned (.bool true) ∧ Below w.heap.size w w' := by
  have H14 := Lib.hid (fun W (hg : Gr w W) => great10_any r W (fun _ => hl.grow hg) (fun _ => hr.grow hg))
  rw [hgr] at H14
  have H38 := Lib.hid (fun W (hg : Gr w W) => rows38_is r W (hl.grow hg) (hr.grow hg) false hok)
  clear hl hr hok hgr
  have HB := Lib.hid (Box.fresh w r.cs 26)
  have HG := Lib.hid (show Gr w (w.alloc (Obj.cells r.cs.toArray 26)) from Gr.alloc _ _)
  unfold Rr.cs at HB HG
  unfold Rr.val at *
  obtain ⟨r0, r1, r2, r3, r4⟩ := cells5 HB.out
  have rl := HB.out.lt
  go_enter Try.func10, Try.ntmps10
  go_wp2_with (first | (go_at_call 14; (with_reducible refine (H14.out _ (by first | exact HG.out | exact Gr.tr HG.out (Gr.alloc _ _) | exact Gr.tr HG.out ((Gr.alloc _ _).tr (Gr.alloc _ _)) | exact Gr.tr HG.out (Gr.drew _))).mono ?_); rintro e w14 ⟨rfl, hb⟩; have HG := Lib.hid (show Gr w w14 from by first | exact Gr.tr HG.out hb | exact Gr.tr (HG.out.tr (Gr.alloc _ _)) hb | exact Gr.tr (HG.out.tr ((Gr.alloc _ _).tr (Gr.alloc _ _))) hb | exact Gr.tr (HG.out.tr (Gr.drew _)) hb); have HB := Lib.hid (HB.out.grow (by first | exact hb | exact Gr.tr (Gr.alloc _ _) hb | exact Gr.tr ((Gr.alloc _ _).tr (Gr.alloc _ _)) hb | exact Gr.tr (Gr.drew _) hb)); clear r0 r1 r2 r3 r4 rl; obtain ⟨r0, r1, r2, r3, r4⟩ := cells5 HB.out; have rl := HB.out.lt; dsimp only; clear hb) | (go_at_call 38; (with_reducible refine (H38.out _ (by first | exact HG.out | exact Gr.tr HG.out (Gr.alloc _ _) | exact Gr.tr HG.out ((Gr.alloc _ _).tr (Gr.alloc _ _)) | exact Gr.tr HG.out (Gr.drew _))).mono ?_); rintro e w38 ⟨rfl, hb⟩; have HG := Lib.hid (show Gr w w38 from by first | exact Gr.tr HG.out hb | exact Gr.tr (HG.out.tr (Gr.alloc _ _)) hb | exact Gr.tr (HG.out.tr ((Gr.alloc _ _).tr (Gr.alloc _ _))) hb | exact Gr.tr (HG.out.tr (Gr.drew _)) hb); have HB := Lib.hid (HB.out.grow (by first | exact hb | exact Gr.tr (Gr.alloc _ _) hb | exact Gr.tr ((Gr.alloc _ _).tr (Gr.alloc _ _)) hb | exact Gr.tr (Gr.drew _) hb)); clear r0 r1 r2 r3 r4 rl; obtain ⟨r0, r1, r2, r3, r4⟩ := cells5 HB.out; have rl := HB.out.lt; dsimp only; clear hb) | (go_at_call 15; (with_reducible refine (alive_any _).mono ?_); rintro e wa ⟨rfl, hb⟩; have HG := Lib.hid (show Gr w wa from by first | exact Gr.tr HG.out hb | exact Gr.tr (HG.out.tr (Gr.alloc _ _)) hb | exact Gr.tr (HG.out.tr ((Gr.alloc _ _).tr (Gr.alloc _ _))) hb | exact Gr.tr (HG.out.tr (Gr.drew _)) hb); have HB := Lib.hid (HB.out.grow (by first | exact hb | exact Gr.tr (Gr.alloc _ _) hb | exact Gr.tr ((Gr.alloc _ _).tr (Gr.alloc _ _)) hb | exact Gr.tr (Gr.drew _) hb)); clear r0 r1 r2 r3 r4 rl; obtain ⟨r0, r1, r2, r3, r4⟩ := cells5 HB.out; have rl := HB.out.lt; clear hb))
  go_ret
  exact ⟨rfl, HG.out⟩
set_option maxRecDepth 100000 in
set_option maxHeartbeats 8000000 in
theorem lask_few (r : Rr) (b : Nat) (w : World) (hl : MksAt r.L r.lp w) (hr : MksAt r.R r.rp w) (hgr : r.great 10 = false) (hok : r.ok = true) (h1 : r.ways.length ≤ 1) :
    Calls Try.prog 10 #[r.val, .int .u8 b] w fun e w' => e = .returned (.bool true) ∧ Below w.heap.size w w' := by
  have H14 := Lib.hid (fun W (hg : Gr w W) => great10_any r W (fun _ => hl.grow hg) (fun _ => hr.grow hg))
  rw [hgr] at H14
  have H38 := Lib.hid (fun W (hg : Gr w W) => rows38_is r W (hl.grow hg) (hr.grow hg) true hok)
  have H18 := Lib.hid (fun W (hg : Gr w W) => count18_yes r W (hl.grow hg) (hr.grow hg) hok)
  have H32 := Lib.hid (fun W (hg : Gr w W) => Ask_any r W (hl.grow hg) (hr.grow hg))
  rw [Rr.all0_is hok] at H18
  have hask : r.ask = (0, 0, 4) := by
    have ha : r.lkd.all0 = r.ways.length := Rr.all0_is hok
    unfold Rr.ask
    rw [if_pos hok]
    by_cases h0 : r.lkd.all0 = 0
    · rw [if_pos h0]
    · rw [if_neg h0, if_pos (by omega)]
  rw [hask] at H32
  have g1 : (r.ways.length : Int) ≤ 1 := by omega
  clear hl hr hok hgr hask
  generalize r.ways.length = al at *
  have HB := Lib.hid (Box.fresh w r.cs 26)
  have HG := Lib.hid (show Gr w (w.alloc (Obj.cells r.cs.toArray 26)) from Gr.alloc _ _)
  unfold Rr.cs at HB HG
  unfold Rr.val at *
  obtain ⟨r0, r1, r2, r3, r4⟩ := cells5 HB.out
  have rl := HB.out.lt
  go_enter Try.func10, Try.ntmps10
  go_wp2_with (first | (go_at_call 14; (with_reducible refine (H14.out _ (by first | exact HG.out | exact Gr.tr HG.out (Gr.alloc _ _) | exact Gr.tr HG.out ((Gr.alloc _ _).tr (Gr.alloc _ _)) | exact Gr.tr HG.out (Gr.drew _))).mono ?_); rintro e w14 ⟨rfl, hb⟩; have HG := Lib.hid (show Gr w w14 from by first | exact Gr.tr HG.out hb | exact Gr.tr (HG.out.tr (Gr.alloc _ _)) hb | exact Gr.tr (HG.out.tr ((Gr.alloc _ _).tr (Gr.alloc _ _))) hb | exact Gr.tr (HG.out.tr (Gr.drew _)) hb); have HB := Lib.hid (HB.out.grow (by first | exact hb | exact Gr.tr (Gr.alloc _ _) hb | exact Gr.tr ((Gr.alloc _ _).tr (Gr.alloc _ _)) hb | exact Gr.tr (Gr.drew _) hb)); clear r0 r1 r2 r3 r4 rl; obtain ⟨r0, r1, r2, r3, r4⟩ := cells5 HB.out; have rl := HB.out.lt; dsimp only; clear hb) | (go_at_call 38; (with_reducible refine (H38.out _ (by first | exact HG.out | exact Gr.tr HG.out (Gr.alloc _ _) | exact Gr.tr HG.out ((Gr.alloc _ _).tr (Gr.alloc _ _)) | exact Gr.tr HG.out (Gr.drew _))).mono ?_); rintro e w38 ⟨rfl, hb⟩; have HG := Lib.hid (show Gr w w38 from by first | exact Gr.tr HG.out hb | exact Gr.tr (HG.out.tr (Gr.alloc _ _)) hb | exact Gr.tr (HG.out.tr ((Gr.alloc _ _).tr (Gr.alloc _ _))) hb | exact Gr.tr (HG.out.tr (Gr.drew _)) hb); have HB := Lib.hid (HB.out.grow (by first | exact hb | exact Gr.tr (Gr.alloc _ _) hb | exact Gr.tr ((Gr.alloc _ _).tr (Gr.alloc _ _)) hb | exact Gr.tr (Gr.drew _) hb)); clear r0 r1 r2 r3 r4 rl; obtain ⟨r0, r1, r2, r3, r4⟩ := cells5 HB.out; have rl := HB.out.lt; dsimp only; clear hb) | (go_at_call 18; (with_reducible refine (H18.out _ (by first | exact HG.out | exact Gr.tr HG.out (Gr.alloc _ _) | exact Gr.tr HG.out ((Gr.alloc _ _).tr (Gr.alloc _ _)) | exact Gr.tr HG.out (Gr.drew _))).mono ?_); rintro e w18 ⟨rfl, hb⟩; have HG := Lib.hid (show Gr w w18 from by first | exact Gr.tr HG.out hb | exact Gr.tr (HG.out.tr (Gr.alloc _ _)) hb | exact Gr.tr (HG.out.tr ((Gr.alloc _ _).tr (Gr.alloc _ _))) hb | exact Gr.tr (HG.out.tr (Gr.drew _)) hb); have HB := Lib.hid (HB.out.grow (by first | exact hb | exact Gr.tr (Gr.alloc _ _) hb | exact Gr.tr ((Gr.alloc _ _).tr (Gr.alloc _ _)) hb | exact Gr.tr (Gr.drew _) hb)); clear r0 r1 r2 r3 r4 rl; obtain ⟨r0, r1, r2, r3, r4⟩ := cells5 HB.out; have rl := HB.out.lt; dsimp only; clear hb) | (go_at_call 32; (with_reducible refine (H32.out _ (by first | exact HG.out | exact Gr.tr HG.out (Gr.alloc _ _) | exact Gr.tr HG.out ((Gr.alloc _ _).tr (Gr.alloc _ _)) | exact Gr.tr HG.out (Gr.drew _))).mono ?_); rintro e w32 ⟨rfl, hb⟩; have HG := Lib.hid (show Gr w w32 from by first | exact Gr.tr HG.out hb | exact Gr.tr (HG.out.tr (Gr.alloc _ _)) hb | exact Gr.tr (HG.out.tr ((Gr.alloc _ _).tr (Gr.alloc _ _))) hb | exact Gr.tr (HG.out.tr (Gr.drew _)) hb); have HB := Lib.hid (HB.out.grow (by first | exact hb | exact Gr.tr (Gr.alloc _ _) hb | exact Gr.tr ((Gr.alloc _ _).tr (Gr.alloc _ _)) hb | exact Gr.tr (Gr.drew _) hb)); clear r0 r1 r2 r3 r4 rl; obtain ⟨r0, r1, r2, r3, r4⟩ := cells5 HB.out; have rl := HB.out.lt; have HA := Lib.hid (show Box w32 w18.heap.size [.int .i64 (al : Nat)] 3 from (Box.fresh w18 _ 3).grow hb); have a0 := HA.out.cell (i := 0) rfl; have al0 := HA.out.lt; dsimp only; clear hb) | (go_at_call 15; (with_reducible refine (alive_any _).mono ?_); rintro e wa ⟨rfl, hb⟩; have HG := Lib.hid (show Gr w wa from by first | exact Gr.tr HG.out hb | exact Gr.tr (HG.out.tr (Gr.alloc _ _)) hb | exact Gr.tr (HG.out.tr ((Gr.alloc _ _).tr (Gr.alloc _ _))) hb | exact Gr.tr (HG.out.tr (Gr.drew _)) hb); have HB := Lib.hid (HB.out.grow (by first | exact hb | exact Gr.tr (Gr.alloc _ _) hb | exact Gr.tr ((Gr.alloc _ _).tr (Gr.alloc _ _)) hb | exact Gr.tr (Gr.drew _) hb)); clear r0 r1 r2 r3 r4 rl; obtain ⟨r0, r1, r2, r3, r4⟩ := cells5 HB.out; have rl := HB.out.lt; clear hb))
  go_ret
  exact ⟨rfl, HG.out⟩
set_option maxRecDepth 100000 in
set_option maxHeartbeats 8000000 in
theorem lask_many (r : Rr) (b : Nat) (w : World) (hl : MksAt r.L r.lp w) (hr : MksAt r.R r.rp w) (hb : b ≤ 255) (hcL : r.L.length ≤ r.lc) (hcR : r.R.length ≤ r.rc) (hgr : r.great 10 = false) (hok : r.ok = true) (h2 : 2 ≤ r.ways.length) (hL : 0 < r.L.length) :
    Calls Try.prog 10 #[r.val, .int .u8 b] w fun e w' => e = .returned (.bool true) ∧ Below w.heap.size w w' := by
  obtain ⟨b1, b2, -⟩ := Rr.ok_parts hok
  have H14 := Lib.hid (fun W (hg : Gr w W) => great10_any r W (fun _ => hl.grow hg) (fun _ => hr.grow hg))
  rw [hgr] at H14
  have H38 := Lib.hid (fun W (hg : Gr w W) => rows38_is r W (hl.grow hg) (hr.grow hg) true hok)
  have H18 := Lib.hid (fun W (hg : Gr w W) => count18_yes r W (hl.grow hg) (hr.grow hg) hok)
  have H32 := Lib.hid (fun W (hg : Gr w W) => Ask_any r W (hl.grow hg) (hr.grow hg))
  rw [Rr.all0_is hok] at H18
  obtain ⟨bi, bn, ha, hbi, hn1, hn2, hmx, hmin, hfst⟩ := Rr.ask_spec hok h2 hL
  rw [ha] at H32
  have hall := Rr.all_le hok
  have H40 := Lib.hid (fun W (hg : Gr w W) (i b0 ba : Nat) (hi : i < r.L.length) h0 ha => worst40 r W i b0 ba hok hi (hl.grow hg) (hr.grow hg) hcL hcR h0 ha)
  unfold Rr.cs at H40
  have g1 : ¬ (r.ways.length : Int) ≤ 1 := by omega
  have g2 : ¬ (bi : Int) < 0 := by omega
  have g3 : ¬ (r.L.length : Int) ≤ bi := by omega
  have g4 : ¬ (bn : Int) < 1 := by omega
  have g5 : ¬ (r.ways.length : Int) < bn := by omega
  have hj : b % r.L.length < r.L.length := Nat.mod_lt _ hL
  have hrem : (b : Int).tmod (r.L.length : Int) = ((b % r.L.length : Nat) : Int) := by first | rfl | exact (Int.natCast_tmod _ _).symm | simp
  have hL0 : (r.L.length : Int) ≠ 0 := by omega
  have hwj := hmin _ hj
  have hfj := hfst (b % r.L.length)
  clear hl hr hok hgr ha hmin hfst
  generalize hal : r.ways.length = al at *
  generalize b % r.L.length = j at *
  generalize hx : r.mx j (r.R.length + 1) = x at *
  have HMX := Lib.hid hmx
  have HXX := Lib.hid hx
  clear hmx hx hal
  have HB := Lib.hid (Box.fresh w r.cs 26)
  have HG := Lib.hid (show Gr w (w.alloc (Obj.cells r.cs.toArray 26)) from Gr.alloc _ _)
  unfold Rr.cs at HB HG
  unfold Rr.val at *
  obtain ⟨r0, r1, r2, r3, r4⟩ := cells5 HB.out
  have rl := HB.out.lt
  go_enter Try.func10, Try.ntmps10
  go_wp2_with (first | (go_at_call 14; (with_reducible refine (H14.out _ (by first | exact HG.out | exact Gr.tr HG.out (Gr.alloc _ _) | exact Gr.tr HG.out ((Gr.alloc _ _).tr (Gr.alloc _ _)) | exact Gr.tr HG.out (Gr.drew _))).mono ?_); rintro e w14 ⟨rfl, hb⟩; have HG := Lib.hid (show Gr w w14 from by first | exact Gr.tr HG.out hb | exact Gr.tr (HG.out.tr (Gr.alloc _ _)) hb | exact Gr.tr (HG.out.tr ((Gr.alloc _ _).tr (Gr.alloc _ _))) hb | exact Gr.tr (HG.out.tr (Gr.drew _)) hb); have HB := Lib.hid (HB.out.grow (by first | exact hb | exact Gr.tr (Gr.alloc _ _) hb | exact Gr.tr ((Gr.alloc _ _).tr (Gr.alloc _ _)) hb | exact Gr.tr (Gr.drew _) hb)); clear r0 r1 r2 r3 r4 rl; obtain ⟨r0, r1, r2, r3, r4⟩ := cells5 HB.out; have rl := HB.out.lt; dsimp only; clear hb) | (go_at_call 38; (with_reducible refine (H38.out _ (by first | exact HG.out | exact Gr.tr HG.out (Gr.alloc _ _) | exact Gr.tr HG.out ((Gr.alloc _ _).tr (Gr.alloc _ _)) | exact Gr.tr HG.out (Gr.drew _))).mono ?_); rintro e w38 ⟨rfl, hb⟩; have HG := Lib.hid (show Gr w w38 from by first | exact Gr.tr HG.out hb | exact Gr.tr (HG.out.tr (Gr.alloc _ _)) hb | exact Gr.tr (HG.out.tr ((Gr.alloc _ _).tr (Gr.alloc _ _))) hb | exact Gr.tr (HG.out.tr (Gr.drew _)) hb); have HB := Lib.hid (HB.out.grow (by first | exact hb | exact Gr.tr (Gr.alloc _ _) hb | exact Gr.tr ((Gr.alloc _ _).tr (Gr.alloc _ _)) hb | exact Gr.tr (Gr.drew _) hb)); clear r0 r1 r2 r3 r4 rl; obtain ⟨r0, r1, r2, r3, r4⟩ := cells5 HB.out; have rl := HB.out.lt; dsimp only; clear hb) | (go_at_call 18; (with_reducible refine (H18.out _ (by first | exact HG.out | exact Gr.tr HG.out (Gr.alloc _ _) | exact Gr.tr HG.out ((Gr.alloc _ _).tr (Gr.alloc _ _)) | exact Gr.tr HG.out (Gr.drew _))).mono ?_); rintro e w18 ⟨rfl, hb⟩; have HG := Lib.hid (show Gr w w18 from by first | exact Gr.tr HG.out hb | exact Gr.tr (HG.out.tr (Gr.alloc _ _)) hb | exact Gr.tr (HG.out.tr ((Gr.alloc _ _).tr (Gr.alloc _ _))) hb | exact Gr.tr (HG.out.tr (Gr.drew _)) hb); have HB := Lib.hid (HB.out.grow (by first | exact hb | exact Gr.tr (Gr.alloc _ _) hb | exact Gr.tr ((Gr.alloc _ _).tr (Gr.alloc _ _)) hb | exact Gr.tr (Gr.drew _) hb)); clear r0 r1 r2 r3 r4 rl; obtain ⟨r0, r1, r2, r3, r4⟩ := cells5 HB.out; have rl := HB.out.lt; dsimp only; clear hb) | (go_at_call 32; (with_reducible refine (H32.out _ (by first | exact HG.out | exact Gr.tr HG.out (Gr.alloc _ _) | exact Gr.tr HG.out ((Gr.alloc _ _).tr (Gr.alloc _ _)) | exact Gr.tr HG.out (Gr.drew _))).mono ?_); rintro e w32 ⟨rfl, hb⟩; have HG := Lib.hid (show Gr w w32 from by first | exact Gr.tr HG.out hb | exact Gr.tr (HG.out.tr (Gr.alloc _ _)) hb | exact Gr.tr (HG.out.tr ((Gr.alloc _ _).tr (Gr.alloc _ _))) hb | exact Gr.tr (HG.out.tr (Gr.drew _)) hb); have HB := Lib.hid (HB.out.grow (by first | exact hb | exact Gr.tr (Gr.alloc _ _) hb | exact Gr.tr ((Gr.alloc _ _).tr (Gr.alloc _ _)) hb | exact Gr.tr (Gr.drew _) hb)); clear r0 r1 r2 r3 r4 rl; obtain ⟨r0, r1, r2, r3, r4⟩ := cells5 HB.out; have rl := HB.out.lt; have HA := Lib.hid (show Box w32 w18.heap.size [.int .i64 (al : Nat)] 3 from (Box.fresh w18 _ 3).grow hb); have a0 := HA.out.cell (i := 0) rfl; have al0 := HA.out.lt; dsimp only; clear hb) | (go_at_call 15; (with_reducible refine (alive_any _).mono ?_); rintro e wa ⟨rfl, hb⟩; have HG := Lib.hid (show Gr w wa from by first | exact Gr.tr HG.out hb | exact Gr.tr (HG.out.tr (Gr.alloc _ _)) hb | exact Gr.tr (HG.out.tr ((Gr.alloc _ _).tr (Gr.alloc _ _))) hb | exact Gr.tr (HG.out.tr (Gr.drew _)) hb); have HB := Lib.hid (HB.out.grow (by first | exact hb | exact Gr.tr (Gr.alloc _ _) hb | exact Gr.tr ((Gr.alloc _ _).tr (Gr.alloc _ _)) hb | exact Gr.tr (Gr.drew _) hb)); clear r0 r1 r2 r3 r4 rl; obtain ⟨r0, r1, r2, r3, r4⟩ := cells5 HB.out; have rl := HB.out.lt; clear hb))
  have c1 := H40.out _ HG.out j _ _ hj HB.out HA.out
  rw [HXX.out] at c1
  refine c1.mono ?_
  rintro e w40 ⟨rfl, hb⟩
  have HG := Lib.hid (show Gr w w40 from Gr.tr HG.out hb)
  have HB := Lib.hid (HB.out.grow hb)
  have HA := Lib.hid (HA.out.grow hb)
  clear hb c1
  dsimp only
  by_cases hgt : (bn : Int) < x
  · have g6 : ¬ (x : Int) = bn := by omega
    go_wp2_with fail
    have c1 := H40.out _ HG.out bi _ _ hbi HB.out HA.out
    rw [HMX.out] at c1
    refine c1.mono ?_
    rintro e w41 ⟨rfl, hb⟩
    have HG := Lib.hid (show Gr w w41 from Gr.tr HG.out hb)
    clear hb c1
    dsimp only
    go_wp2_with (first | (go_at_call 15; (with_reducible refine (alive_any _).mono ?_); rintro e wa ⟨rfl, hb⟩; have HG := Lib.hid (show Gr w wa from Gr.tr HG.out hb); clear hb))
    go_ret
    exact ⟨rfl, HG.out⟩
  · have hxe : x = bn := by omega
    subst hxe
    have g7 : ¬ (j : Int) < bi := by
      intro h
      have := hfj (by omega)
      omega
    have g8 : (bi : Int) ≤ j := by omega
    go_wp2_with fail
    have c1 := H40.out _ HG.out bi _ _ hbi HB.out HA.out
    rw [HMX.out] at c1
    refine c1.mono ?_
    rintro e w41 ⟨rfl, hb⟩
    have HG := Lib.hid (show Gr w w41 from Gr.tr HG.out hb)
    clear hb c1
    dsimp only
    go_wp2_with (first | (go_at_call 15; (with_reducible refine (alive_any _).mono ?_); rintro e wa ⟨rfl, hb⟩; have HG := Lib.hid (show Gr w wa from Gr.tr HG.out hb); clear hb))
    go_ret
    exact ⟨rfl, HG.out⟩

end Go.Proofs.Ytjlaoiimbhlafaa
