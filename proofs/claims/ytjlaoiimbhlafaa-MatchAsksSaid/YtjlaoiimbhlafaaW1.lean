import Derived.Test.YtjlaoiimbhlafaaPH
set_option linter.unusedVariables false
set_option linter.unusedSimpArgs false
namespace Go.Proofs.Ytjlaoiimbhlafaa
open Go.RowKit Go.Shelf

open MW
attribute [local go_sem] Oper.semAt_some run_store_func
set_option maxRecDepth 100000 in
set_option maxHeartbeats 8000000 in
theorem fit51_any (r : Rr) (i j : Nat) (w : World) (hl : MksAt r.L r.lp w) (hr : MksAt r.R r.rp w) (hok : r.ok = true) (hi : i < r.L.length) (hj : j < r.R.length) :
    Calls Try.prog 51 #[r.val, .int .i64 i, .int .i64 j] w fun e w' => e = .returned (.bool (r.fitm i j)) ∧ Below w.heap.size w w' := by
  obtain ⟨x, hx⟩ : ∃ x, r.L[i]? = some x := ⟨_, List.getElem?_eq_getElem hi⟩
  obtain ⟨y, hy⟩ : ∃ y, r.R[j]? = some y := ⟨_, List.getElem?_eq_getElem hj⟩
  obtain ⟨-, -, p3, p4, -⟩ := Rr.ok_parts hok
  have HC := Lib.hid (fun W (hg : Gr w W) => shiftOf_any r i j x y W (hl.grow hg) (hr.grow hg) hx hy (Mrk.in_of_ok (p3 x (List.mem_of_getElem? hx))) (Mrk.in_of_ok (p4 y (List.mem_of_getElem? hy))))
  rw [← Rr.shOf_fit hx hy]
  unfold spV at HC
  generalize (r.shOf x y).1 = a at *
  generalize (r.shOf x y).2 = b at *
  clear hl hr hok hi hj hx hy p3 p4
  have HB := Lib.hid (Box.fresh w r.cs 26)
  have HG := Lib.hid (show Gr w (w.alloc (Obj.cells r.cs.toArray 26)) from Gr.alloc _ _)
  unfold Rr.cs at HB HG
  unfold Rr.val at *
  obtain ⟨r0, r1, r2, r3, r4⟩ := cells5 HB.out
  have rl := HB.out.lt
  go_enter Try.func51, Try.ntmps51
  go_wp2_with (first | (go_at_call 39; (with_reducible refine (HC.out _ HG.out).mono ?_); rintro e w1 ⟨rfl, hb⟩; have HG := Lib.hid (show Gr w w1 from by first | exact Gr.tr HG.out hb | exact Gr.tr (HG.out.tr (Gr.alloc _ _)) hb); have HB := Lib.hid (HB.out.grow (by first | exact hb | exact Gr.tr (Gr.alloc _ _) hb | exact Gr.tr ((Gr.alloc _ _).tr (Gr.alloc _ _)) hb | exact Gr.tr (Gr.drew _) hb)); clear r0 r1 r2 r3 r4 rl; obtain ⟨r0, r1, r2, r3, r4⟩ := cells5 HB.out; have rl := HB.out.lt; clear hb))
  go_ret
  exact ⟨rfl, HG.out.tr (Gr.alloc _ _)⟩
set_option maxRecDepth 100000 in
set_option maxHeartbeats 8000000 in
theorem rfits_no (r : Rr) (i j : Int) (w : World) (hl : MksAt r.L r.lp w) (hr : MksAt r.R r.rp w) (hok : r.ok = false) :
    Calls Try.prog 17 #[r.val, .int .i64 i, .int .i64 j] w fun e w' => e = .returned (.tuple #[.bool false, .int .i64 1]) ∧ Below w.heap.size w w' := by
  have H38 := Lib.hid (fun W (hg : Gr w W) => rows38_is r W (hl.grow hg) (hr.grow hg) false hok)
  clear hl hr hok
  have HB := Lib.hid (Box.fresh w r.cs 26)
  have HG := Lib.hid (show Gr w (w.alloc (Obj.cells r.cs.toArray 26)) from Gr.alloc _ _)
  unfold Rr.cs at HB HG
  unfold Rr.val at *
  obtain ⟨r0, r1, r2, r3, r4⟩ := cells5 HB.out
  have rl := HB.out.lt
  go_enter Try.func17, Try.ntmps17
  go_wp2_with (first | (go_at_call 38; (with_reducible refine (H38.out _ (by first | exact HG.out | exact Gr.tr HG.out (Gr.alloc _ _) | exact Gr.tr HG.out ((Gr.alloc _ _).tr (Gr.alloc _ _)) | exact Gr.tr HG.out (Gr.drew _))).mono ?_); rintro e wr ⟨rfl, hb⟩; have HG := Lib.hid (show Gr w wr from by first | exact Gr.tr HG.out hb | exact Gr.tr (HG.out.tr (Gr.alloc _ _)) hb | exact Gr.tr (HG.out.tr ((Gr.alloc _ _).tr (Gr.alloc _ _))) hb | exact Gr.tr (HG.out.tr (Gr.drew _)) hb); have HB := Lib.hid (HB.out.grow (by first | exact hb | exact Gr.tr (Gr.alloc _ _) hb | exact Gr.tr ((Gr.alloc _ _).tr (Gr.alloc _ _)) hb | exact Gr.tr (Gr.drew _) hb)); clear r0 r1 r2 r3 r4 rl; obtain ⟨r0, r1, r2, r3, r4⟩ := cells5 HB.out; have rl := HB.out.lt; clear hb) | (go_at_call 50; (with_reducible refine (H50.out _ (by first | exact HG.out | exact Gr.tr HG.out (Gr.alloc _ _) | exact Gr.tr HG.out ((Gr.alloc _ _).tr (Gr.alloc _ _)) | exact Gr.tr HG.out (Gr.drew _))).mono ?_); rintro e wm ⟨rfl, hb⟩; have HG := Lib.hid (show Gr w wm from by first | exact Gr.tr HG.out hb | exact Gr.tr (HG.out.tr (Gr.alloc _ _)) hb | exact Gr.tr (HG.out.tr ((Gr.alloc _ _).tr (Gr.alloc _ _))) hb | exact Gr.tr (HG.out.tr (Gr.drew _)) hb); have HB := Lib.hid (HB.out.grow (by first | exact hb | exact Gr.tr (Gr.alloc _ _) hb | exact Gr.tr ((Gr.alloc _ _).tr (Gr.alloc _ _)) hb | exact Gr.tr (Gr.drew _) hb)); clear r0 r1 r2 r3 r4 rl; obtain ⟨r0, r1, r2, r3, r4⟩ := cells5 HB.out; have rl := HB.out.lt; clear hb) | (go_at_call 51; (with_reducible refine (H51.out _ (by first | exact HG.out | exact Gr.tr HG.out (Gr.alloc _ _) | exact Gr.tr HG.out ((Gr.alloc _ _).tr (Gr.alloc _ _)) | exact Gr.tr HG.out (Gr.drew _))).mono ?_); rintro e wf ⟨rfl, hb⟩; have HG := Lib.hid (show Gr w wf from by first | exact Gr.tr HG.out hb | exact Gr.tr (HG.out.tr (Gr.alloc _ _)) hb | exact Gr.tr (HG.out.tr ((Gr.alloc _ _).tr (Gr.alloc _ _))) hb | exact Gr.tr (HG.out.tr (Gr.drew _)) hb); have HB := Lib.hid (HB.out.grow (by first | exact hb | exact Gr.tr (Gr.alloc _ _) hb | exact Gr.tr ((Gr.alloc _ _).tr (Gr.alloc _ _)) hb | exact Gr.tr (Gr.drew _) hb)); clear r0 r1 r2 r3 r4 rl; obtain ⟨r0, r1, r2, r3, r4⟩ := cells5 HB.out; have rl := HB.out.lt; clear hb))
  exact bodyPost_ret (v := .tuple #[.bool false, .int .i64 1]) (by simp [results, Try.f17, go_sem]) rfl ⟨rfl, HG.out⟩
set_option maxRecDepth 100000 in
set_option maxHeartbeats 8000000 in
theorem rfits_mark (r : Rr) (i j : Int) (w : World) (hl : MksAt r.L r.lp w) (hr : MksAt r.R r.rp w) (hok : r.ok = true) (hm : (isM i r.L.length && isM j r.R.length) = false) :
    Calls Try.prog 17 #[r.val, .int .i64 i, .int .i64 j] w fun e w' => e = .returned (.tuple #[.bool false, .int .i64 2]) ∧ Below w.heap.size w w' := by
  have H38 := Lib.hid (fun W (hg : Gr w W) => rows38_is r W (hl.grow hg) (hr.grow hg) true hok)
  have H50 := Lib.hid (fun W (hg : Gr w W) => marks50_any r i j W hl.1 hr.1)
  rw [hm] at H50
  clear hl hr hok hm
  have HB := Lib.hid (Box.fresh w r.cs 26)
  have HG := Lib.hid (show Gr w (w.alloc (Obj.cells r.cs.toArray 26)) from Gr.alloc _ _)
  unfold Rr.cs at HB HG
  unfold Rr.val at *
  obtain ⟨r0, r1, r2, r3, r4⟩ := cells5 HB.out
  have rl := HB.out.lt
  go_enter Try.func17, Try.ntmps17
  go_wp2_with (first | (go_at_call 38; (with_reducible refine (H38.out _ (by first | exact HG.out | exact Gr.tr HG.out (Gr.alloc _ _) | exact Gr.tr HG.out ((Gr.alloc _ _).tr (Gr.alloc _ _)) | exact Gr.tr HG.out (Gr.drew _))).mono ?_); rintro e wr ⟨rfl, hb⟩; have HG := Lib.hid (show Gr w wr from by first | exact Gr.tr HG.out hb | exact Gr.tr (HG.out.tr (Gr.alloc _ _)) hb | exact Gr.tr (HG.out.tr ((Gr.alloc _ _).tr (Gr.alloc _ _))) hb | exact Gr.tr (HG.out.tr (Gr.drew _)) hb); have HB := Lib.hid (HB.out.grow (by first | exact hb | exact Gr.tr (Gr.alloc _ _) hb | exact Gr.tr ((Gr.alloc _ _).tr (Gr.alloc _ _)) hb | exact Gr.tr (Gr.drew _) hb)); clear r0 r1 r2 r3 r4 rl; obtain ⟨r0, r1, r2, r3, r4⟩ := cells5 HB.out; have rl := HB.out.lt; clear hb) | (go_at_call 50; (with_reducible refine (H50.out _ (by first | exact HG.out | exact Gr.tr HG.out (Gr.alloc _ _) | exact Gr.tr HG.out ((Gr.alloc _ _).tr (Gr.alloc _ _)) | exact Gr.tr HG.out (Gr.drew _))).mono ?_); rintro e wm ⟨rfl, hb⟩; have HG := Lib.hid (show Gr w wm from by first | exact Gr.tr HG.out hb | exact Gr.tr (HG.out.tr (Gr.alloc _ _)) hb | exact Gr.tr (HG.out.tr ((Gr.alloc _ _).tr (Gr.alloc _ _))) hb | exact Gr.tr (HG.out.tr (Gr.drew _)) hb); have HB := Lib.hid (HB.out.grow (by first | exact hb | exact Gr.tr (Gr.alloc _ _) hb | exact Gr.tr ((Gr.alloc _ _).tr (Gr.alloc _ _)) hb | exact Gr.tr (Gr.drew _) hb)); clear r0 r1 r2 r3 r4 rl; obtain ⟨r0, r1, r2, r3, r4⟩ := cells5 HB.out; have rl := HB.out.lt; clear hb) | (go_at_call 51; (with_reducible refine (H51.out _ (by first | exact HG.out | exact Gr.tr HG.out (Gr.alloc _ _) | exact Gr.tr HG.out ((Gr.alloc _ _).tr (Gr.alloc _ _)) | exact Gr.tr HG.out (Gr.drew _))).mono ?_); rintro e wf ⟨rfl, hb⟩; have HG := Lib.hid (show Gr w wf from by first | exact Gr.tr HG.out hb | exact Gr.tr (HG.out.tr (Gr.alloc _ _)) hb | exact Gr.tr (HG.out.tr ((Gr.alloc _ _).tr (Gr.alloc _ _))) hb | exact Gr.tr (HG.out.tr (Gr.drew _)) hb); have HB := Lib.hid (HB.out.grow (by first | exact hb | exact Gr.tr (Gr.alloc _ _) hb | exact Gr.tr ((Gr.alloc _ _).tr (Gr.alloc _ _)) hb | exact Gr.tr (Gr.drew _) hb)); clear r0 r1 r2 r3 r4 rl; obtain ⟨r0, r1, r2, r3, r4⟩ := cells5 HB.out; have rl := HB.out.lt; clear hb))
  exact bodyPost_ret (v := .tuple #[.bool false, .int .i64 2]) (by simp [results, Try.f17, go_sem]) rfl ⟨rfl, HG.out⟩
set_option maxRecDepth 100000 in
set_option maxHeartbeats 8000000 in
theorem rfits_yes (r : Rr) (i j : Nat) (w : World) (hl : MksAt r.L r.lp w) (hr : MksAt r.R r.rp w) (hok : r.ok = true) (hi : i < r.L.length) (hj : j < r.R.length) :
    Calls Try.prog 17 #[r.val, .int .i64 i, .int .i64 j] w fun e w' => e = .returned (.tuple #[.bool (r.fitm i j), .int .i64 0]) ∧ Below w.heap.size w w' := by
  have hm : (isM (i : Int) r.L.length && isM (j : Int) r.R.length) = true := by unfold isM; simp; omega
  have H38 := Lib.hid (fun W (hg : Gr w W) => rows38_is r W (hl.grow hg) (hr.grow hg) true hok)
  have H50 := Lib.hid (fun W (hg : Gr w W) => marks50_any r i j W hl.1 hr.1)
  rw [hm] at H50
  have H51 := Lib.hid (fun W (hg : Gr w W) => fit51_any r i j W (hl.grow hg) (hr.grow hg) hok hi hj)
  generalize r.fitm i j = f at *
  clear hl hr hok hm hi hj
  have HB := Lib.hid (Box.fresh w r.cs 26)
  have HG := Lib.hid (show Gr w (w.alloc (Obj.cells r.cs.toArray 26)) from Gr.alloc _ _)
  unfold Rr.cs at HB HG
  unfold Rr.val at *
  obtain ⟨r0, r1, r2, r3, r4⟩ := cells5 HB.out
  have rl := HB.out.lt
  go_enter Try.func17, Try.ntmps17
  go_wp2_with (first | (go_at_call 38; (with_reducible refine (H38.out _ (by first | exact HG.out | exact Gr.tr HG.out (Gr.alloc _ _) | exact Gr.tr HG.out ((Gr.alloc _ _).tr (Gr.alloc _ _)) | exact Gr.tr HG.out (Gr.drew _))).mono ?_); rintro e wr ⟨rfl, hb⟩; have HG := Lib.hid (show Gr w wr from by first | exact Gr.tr HG.out hb | exact Gr.tr (HG.out.tr (Gr.alloc _ _)) hb | exact Gr.tr (HG.out.tr ((Gr.alloc _ _).tr (Gr.alloc _ _))) hb | exact Gr.tr (HG.out.tr (Gr.drew _)) hb); have HB := Lib.hid (HB.out.grow (by first | exact hb | exact Gr.tr (Gr.alloc _ _) hb | exact Gr.tr ((Gr.alloc _ _).tr (Gr.alloc _ _)) hb | exact Gr.tr (Gr.drew _) hb)); clear r0 r1 r2 r3 r4 rl; obtain ⟨r0, r1, r2, r3, r4⟩ := cells5 HB.out; have rl := HB.out.lt; clear hb) | (go_at_call 50; (with_reducible refine (H50.out _ (by first | exact HG.out | exact Gr.tr HG.out (Gr.alloc _ _) | exact Gr.tr HG.out ((Gr.alloc _ _).tr (Gr.alloc _ _)) | exact Gr.tr HG.out (Gr.drew _))).mono ?_); rintro e wm ⟨rfl, hb⟩; have HG := Lib.hid (show Gr w wm from by first | exact Gr.tr HG.out hb | exact Gr.tr (HG.out.tr (Gr.alloc _ _)) hb | exact Gr.tr (HG.out.tr ((Gr.alloc _ _).tr (Gr.alloc _ _))) hb | exact Gr.tr (HG.out.tr (Gr.drew _)) hb); have HB := Lib.hid (HB.out.grow (by first | exact hb | exact Gr.tr (Gr.alloc _ _) hb | exact Gr.tr ((Gr.alloc _ _).tr (Gr.alloc _ _)) hb | exact Gr.tr (Gr.drew _) hb)); clear r0 r1 r2 r3 r4 rl; obtain ⟨r0, r1, r2, r3, r4⟩ := cells5 HB.out; have rl := HB.out.lt; clear hb) | (go_at_call 51; (with_reducible refine (H51.out _ (by first | exact HG.out | exact Gr.tr HG.out (Gr.alloc _ _) | exact Gr.tr HG.out ((Gr.alloc _ _).tr (Gr.alloc _ _)) | exact Gr.tr HG.out (Gr.drew _))).mono ?_); rintro e wf ⟨rfl, hb⟩; have HG := Lib.hid (show Gr w wf from by first | exact Gr.tr HG.out hb | exact Gr.tr (HG.out.tr (Gr.alloc _ _)) hb | exact Gr.tr (HG.out.tr ((Gr.alloc _ _).tr (Gr.alloc _ _))) hb | exact Gr.tr (HG.out.tr (Gr.drew _)) hb); have HB := Lib.hid (HB.out.grow (by first | exact hb | exact Gr.tr (Gr.alloc _ _) hb | exact Gr.tr ((Gr.alloc _ _).tr (Gr.alloc _ _)) hb | exact Gr.tr (Gr.drew _) hb)); clear r0 r1 r2 r3 r4 rl; obtain ⟨r0, r1, r2, r3, r4⟩ := cells5 HB.out; have rl := HB.out.lt; clear hb))
  exact bodyPost_ret (v := .tuple #[.bool f, .int .i64 0]) (by simp [results, Try.f17, go_sem]) rfl ⟨rfl, HG.out⟩
theorem rfits_any (r : Rr) (i j : Int) (w : World) (hl : MksAt r.L r.lp w) (hr : MksAt r.R r.rp w) :
    Calls Try.prog 17 #[r.val, .int .i64 i, .int .i64 j] w fun e w' => e = .returned (.tuple #[.bool (r.fits i j).1, .int .i64 (r.fits i j).2]) ∧ Below w.heap.size w w' := by
  unfold Rr.fits
  cases h : r.ok with
  | false => exact rfits_no r i j w hl hr h
  | true =>
    cases hm : isM i r.L.length && isM j r.R.length with
    | false => exact rfits_mark r i j w hl hr h hm
    | true =>
      have hm' := hm
      unfold isM at hm'
      simp only [Bool.and_eq_true, decide_eq_true_eq] at hm'
      obtain ⟨a, rfl⟩ : ∃ a : Nat, i = a := ⟨i.toNat, by omega⟩
      obtain ⟨c, rfl⟩ : ∃ c : Nat, j = c := ⟨j.toNat, by omega⟩
      exact rfits_yes r a c w hl hr h (by omega) (by omega)
set_option maxRecDepth 100000 in
set_option maxHeartbeats 8000000 in
theorem power103_any (n : Nat) (w : World) (hn : n ≤ 10) :
    Calls Try.prog 103 #[.int .i64 n] w fun e w' => e = .returned (.int .i64 ((2 ^ n : Nat) : Int)) ∧ Below w.heap.size w w' := by
  have HP : ∀ k : Nat, k ≤ 10 → 2 ^ k ≤ 1024 ∧ 0 < 2 ^ k := fun k hk => ⟨by have := Nat.pow_le_pow_right (n := 2) (by omega) hk; simpa using this, Nat.two_pow_pos k⟩
  have HP := Lib.hid HP
  go_enter Try.func103, Try.ntmps103
  go_wp2_with fail
  go_loopw [3, 4] (fun o c wr => ∃ k : Nat, k ≤ n ∧ c = .int .i64 k ∧ o = .int .i64 ((2 ^ k : Nat) : Int) ∧ Hid (Gr w wr)) (fun _ c _ => (20 - intOf c).toNat)
  case atStart => exact ⟨0, Nat.zero_le _, rfl, rfl, Lib.hid (Gr.same _)⟩
  case round =>
    obtain ⟨k, hk, rfl, rfl, HG⟩ := hrel
    by_cases hlt : k < n
    · have h1 := HP.out k (by omega)
      have HS := Lib.hid (show ((2 ^ (k + 1) : Nat) : Int) = 2 * ((2 ^ k : Nat) : Int) by rw [Nat.pow_succ]; omega)
      generalize 2 ^ k = p at *
      have g1 : (k : Int) < n := by omega
      obtain ⟨q1, q2⟩ := h1
      go_wp2_with fail
      exact ⟨⟨k + 1, by omega, by go_num, by rw [HS.out], HG⟩, by simp [intOf]; omega⟩
    · have hin : k = n := by omega
      subst hin
      go_wp2_with fail
      go_ret
      exact ⟨by simp, HG.out⟩
theorem has66_any (s n : Nat) (w : World) (hs : s < 4096) (hn : n ≤ 10) :
    Calls Try.prog 66 #[.int .i64 s, .int .i64 n] w fun e w' => e = .returned (.bool (s.testBit n)) ∧ Below w.heap.size w w' := by
  have HP := Lib.hid (fun W => power103_any n W hn)
  have hb := Nat.testBit_eq_decide_div_mod_eq (x := s) (i := n)
  have hp : 0 < 2 ^ n := Nat.two_pow_pos n
  have HB := Lib.hid (show decide (s / 2 ^ n % 2 = 1) = s.testBit n from hb.symm)
  generalize s.testBit n = b at *
  generalize 2 ^ n = p at *
  have hp1 : (p : Int) ≠ 0 := by omega
  have hp2 : ((p : Int) == 0) = false := by rw [beq_eq_false_iff_ne]; exact hp1
  have hp3 : (0 : Int) < p := by omega
  have e1 : (((s : Int) / (p : Int)) % 2 == 1) = b := by
    rw [← HB.out, show ((s : Int) / (p : Int)) % 2 = ((s / p % 2 : Nat) : Int) by simp, Bool.eq_iff_iff, beq_iff_eq, decide_eq_true_eq]
    omega
  have HE := Lib.hid e1
  have hq : 0 ≤ (s : Int) / (p : Int) ∧ (s : Int) / (p : Int) ≤ 4096 := by
    have h1 : ((s : Int) / (p : Int)) = ((s / p : Nat) : Int) := by simp
    have h2 : s / p ≤ s := Nat.div_le_self _ _
    rw [h1]
    exact ⟨Int.natCast_nonneg _, Int.ofNat_le.2 (show s / p ≤ 4096 from Nat.le_trans h2 (Nat.le_of_lt hs))⟩
  clear hb e1
  go_enter Try.func66, Try.ntmps66
  go_wp2_with (go_at_call 103; (with_reducible refine (HP.out _).mono ?_); rintro e w1 ⟨rfl, hb⟩; have HG := Lib.hid (show Gr w w1 from hb); clear hb)
  go_ret
  exact ⟨by rw [← HE.out]; rfl, HG.out⟩
set_option maxRecDepth 100000 in
set_option maxHeartbeats 8000000 in
theorem with60_any (s n : Nat) (w : World) (hs : s < 2048) (hn : n ≤ 10) :
    Calls Try.prog 60 #[.int .i64 s, .int .i64 n] w fun e w' => e = .returned (.int .i64 (wi s n : Nat)) ∧ Below w.heap.size w w' := by
  have HP := Lib.hid (fun W => power103_any n W hn)
  have HH := Lib.hid (fun W => has66_any s n W (by omega) hn)
  have hp : 2 ^ n ≤ 1024 := by have := Nat.pow_le_pow_right (n := 2) (by omega) hn; simpa using this
  have HW := Lib.hid (show wi s n = if s.testBit n then s else s + 2 ^ n by
    unfold wi
    rw [Nat.testBit_eq_decide_div_mod_eq]
    simp)
  cases hb : s.testBit n with
  | true =>
    rw [hb] at HH HW
    clear hb
    go_enter Try.func60, Try.ntmps60
    go_wp2_with (first | (go_at_call 66; (with_reducible refine (HH.out _).mono ?_); rintro e w1 ⟨rfl, hb⟩; have HG := Lib.hid (show Gr w w1 from hb); clear hb))
    go_ret
    exact ⟨by rw [HW.out]; rfl, HG.out⟩
  | false =>
    rw [hb] at HH HW
    clear hb
    generalize 2 ^ n = p at *
    go_enter Try.func60, Try.ntmps60
    go_wp2_with (first | (go_at_call 66; (with_reducible refine (HH.out _).mono ?_); rintro e w1 ⟨rfl, hb⟩; have HG := Lib.hid (show Gr w w1 from hb); clear hb) | (go_at_call 103; (with_reducible refine (HP.out _).mono ?_); rintro e w2 ⟨rfl, hb⟩; have HG := Lib.hid (HG.out.tr hb); clear hb))
    go_ret
    exact ⟨by rw [HW.out]; simp, HG.out⟩
/-- With which right mark a left one is a pair. -/
theorem par_at {q : List (Nat × Nat)} {i k : Nat} {x : Nat × Nat} (hk : q[k]? = some x) (hx : x.1 = i) (hj : ∀ j y, j < k → q[j]? = some y → y.1 ≠ i) : par q i = x.2 := by
  unfold par
  have : q.find? (fun x => x.1 == i) = some x := by
    induction q generalizing k with
    | nil => cases hk
    | cons a q ih =>
      cases k with
      | zero =>
        cases hk
        rw [List.find?_cons_of_pos (by simpa using hx)]
      | succ k =>
        have h0 := hj 0 a (by omega) rfl
        rw [List.find?_cons_of_neg (by simpa using h0)]
        exact ih (k := k) hk fun j y hlt hy => hj (j + 1) y (by omega) hy
  rw [this]
theorem partner62_any (v : Value) (q : List (Nat × Nat)) (i : Nat) (w : World) (h : PrsIn v q w) (hl : q.length ≤ 1000) (hb : ∀ x ∈ q, x.1 < 1000 ∧ x.2 < 1000) :
    Calls Try.prog 62 #[v, .int .i64 i] w fun e w' => e = .returned (.int .i64 (par q i)) ∧ Below w.heap.size w w' := by
  obtain ⟨p, c, rfl, h⟩ := h
  have H := Lib.hid h
  have HQ := Lib.hid hb
  clear h hb
  go_enter Try.func62, Try.ntmps62
  go_wp2_with fail
  go_loopw [5] (fun t wr => ∃ k : Nat, k ≤ q.length ∧ t = .int .i64 k ∧ Hid (Gr w wr) ∧ Hid (∀ j y, j < k → q[j]? = some y → y.1 ≠ i)) (fun t _ => (2000 - intOf t).toNat)
  case atStart => exact ⟨0, Nat.zero_le _, rfl, Lib.hid (Gr.same _), Lib.hid fun j y hj => absurd hj (by omega)⟩
  case round =>
    obtain ⟨k, hk, rfl, HG, HJ⟩ := hrel
    by_cases hlt : k < q.length
    · obtain ⟨x, hx⟩ : ∃ x, q[k]? = some x := ⟨q[k], List.getElem?_eq_getElem hlt⟩
      obtain ⟨b, o, hp, hb, c1, c2⟩ := H.out k x hx
      subst hp
      have HX := Lib.hid hx
      obtain ⟨hc, hf, hz⟩ := bcell HG.out
      have k1 := hz _ hb
      have q1 := (hc _ _ hb).trans c1
      have q2 := (hc _ _ hb).trans c2
      have g1 : (k : Int) < q.length := by omega
      clear hc hf hz c1 c2 hx
      by_cases hxi : x.1 = i
      · have e1 : ((x.1 : Int) == (i : Int)) = true := by rw [hxi]; simp
        have HPA := Lib.hid (par_at HX.out hxi HJ.out)
        have HXI := Lib.hid hxi
        clear hxi
        go_wp2_with fail
        go_ret
        exact ⟨by rw [HPA.out]; rfl, HG.out⟩
      · have e1 : ((x.1 : Int) == (i : Int)) = false := by rw [beq_eq_false_iff_ne]; omega
        have HXI := Lib.hid hxi
        clear hxi
        go_wp2_with fail
        exact ⟨⟨k + 1, by omega, by go_num, HG, Lib.hid fun j y hj hy => by
          by_cases hjk : j = k
          · rw [hjk, HX.out] at hy; cases hy; exact HXI.out
          · exact HJ.out j y (by omega) hy⟩, by simp [intOf]; omega⟩
    · have hkn : k = q.length := by omega
      have HPA := Lib.hid (show par q i = -1 from par_none.2 fun x hx => by
        obtain ⟨j, hj⟩ := List.mem_iff_getElem?.1 hx
        exact HJ.out j x (by have := (List.getElem?_eq_some_iff.1 hj).1; omega) hj)
      subst hkn
      go_wp2_with fail
      go_ret
      exact ⟨by rw [HPA.out]; rfl, HG.out⟩

end Go.Proofs.Ytjlaoiimbhlafaa
