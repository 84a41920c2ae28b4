import Derived.Test.YtjlaoiimbhlafaaJ15
set_option linter.unusedVariables false
set_option linter.unusedSimpArgs false
namespace Go.Proofs.Ytjlaoiimbhlafaa
open Go.RowKit Go.Shelf

open MW
attribute [local go_sem] Oper.semAt_some run_store_func
attribute [local go_sem ↓] Go.wp_at_zero Go.wp_at_succ
theorem fewJ (r : Rr) (w : World) (hl : MksAt r.L r.lp w) (hr : MksAt r.R r.rp w) {l : List (Nat × Nat)} {n : Nat} {c : Int} (hf : r.fewest = (l, n, c)) :
    Calls Try.prog 20 #[r.val] w fun e w' => (∃ v, e = .returned (.tuple #[v, .int .i64 n, .int .i64 c]) ∧ PrsIn v l w') ∧ Below w.heap.size w w' := by
  have h := Fewest_any r w hl hr
  rw [hf] at h
  refine h.mono ?_
  rintro e w' ⟨⟨v, h1, h2⟩, h3⟩
  exact ⟨⟨v, h1, PrsIn.of_own h2⟩, h3⟩
theorem Rr.great5 {r : Rr} (h : r.great 5 = false) : r.L.length ≤ 24 ∧ r.R.length ≤ 24 ∧ (r.ok = true → r.L.length ≤ 5 ∧ r.R.length ≤ 5) := by
  unfold Rr.great at h
  simp only [Bool.or_eq_false_iff, Bool.and_eq_false_iff, decide_eq_false_iff_not] at h
  refine ⟨by omega, by omega, fun hok => ?_⟩
  rcases h.2.2 with h | h
  · omega
  · rw [hok] at h; cases h
theorem Rr.hz_of {r : Rr} (hok : r.ok = true) : (r.ways = [] ↔ r.lkd.all0 = 0) := by
  rw [Rr.all0_is hok]
  exact ⟨fun h => by rw [h]; rfl, fun h => List.length_eq_zero_iff.1 h⟩
theorem rcount_any (r : Rr) (w : World) (hl : MksAt r.L r.lp w) (hr : MksAt r.R r.rp w) (hn : r.ok = true → r.ways.length ≤ 1000000) :
    Calls Try.prog 19 #[r.val] w fun e w' => e = .returned (.tuple #[.int .i64 r.counted.1, .int .i64 r.counted.2]) ∧ Below w.heap.size w w' := by
  cases hok : r.ok with
  | false =>
    have h : r.counted = (0, 1) := by unfold Rr.counted; rw [hok]; rfl
    rw [h]
    exact rcount_no r w hl hr hok
  | true =>
    have h : r.counted = (r.ways.length, 0) := by unfold Rr.counted; rw [if_pos hok, Rr.all0_is hok]
    rw [h]
    exact rcount_yes r w hl hr hok (hn hok)
theorem fews_any (r : Rr) (hn : r.ok = true → r.ways.length ≤ 1000000) : ∃ (l : List (Nat × Nat)) (nf c : Int), l.length ≤ 1000 ∧ (∀ w, MksAt r.L r.lp w → MksAt r.R r.rp w → Calls Try.prog 20 #[r.val] w fun e w' => (∃ v, e = .returned (.tuple #[v, .int .i64 nf, .int .i64 c]) ∧ PrsIn v l w') ∧ Below w.heap.size w w') ∧
    ∀ w, MksAt r.L r.lp w → MksAt r.R r.rp w → Calls Try.prog 21 #[r.val] w fun e w' => (∃ v, e = .returned (.tuple #[v, .int .i64 nf, .int .i64 c]) ∧ PrsIn v l w') ∧ Below w.heap.size w w' := by
  cases hok : r.ok with
  | false =>
    have hf : r.fewest = ([], 0, 1) := by unfold Rr.fewest; rw [hok]; rfl
    refine ⟨[], 0, 1, by simp, fun w hl hr => fewJ r w hl hr hf, fun w hl hr => (rfew_no r w hl hr hok).mono ?_⟩
    rintro e w' ⟨rfl, h⟩
    exact ⟨⟨_, rfl, PrsIn.nil _⟩, h⟩
  | true =>
    by_cases hz : r.ways = []
    · have hf : r.fewest = ([], 0, 4) := by unfold Rr.fewest; rw [if_pos hok, if_pos ((Rr.hz_of hok).1 hz)]
      refine ⟨[], 0, 4, by simp, fun w hl hr => fewJ r w hl hr hf, fun w hl hr => (rfew_zero r w hl hr hok hz).mono ?_⟩
      rintro e w' ⟨rfl, h⟩
      exact ⟨⟨_, rfl, PrsIn.nil _⟩, h⟩
    · have hf : r.fewest = (r.best, r.lkd.few, 0) := by unfold Rr.fewest; rw [if_pos hok, if_neg (fun h => hz ((Rr.hz_of hok).2 h)), Rr.fst_is hok hz]
      have hw := Rr.few_is hok hz
      obtain ⟨b1, b2, -⟩ := Rr.ok_parts hok
      refine ⟨r.best, (r.L.length : Int) + r.R.length - 2 * r.best.length, 0, by omega, fun w hl hr => ?_, fun w hl hr => rfew_yes r w hl hr hok hz (hn hok)⟩
      have := fewJ r w hl hr hf
      rw [hw.1] at this
      exact this
/-- MatchCounts is true, whatever the rows and the numbers are. -/
theorem lcnt_any (r : Rr) (i j : Int) (w : World) (hl : r.L.length ≤ 24 → MksAt r.L r.lp w) (hr : r.R.length ≤ 24 → MksAt r.R r.rp w) :
    Calls Try.prog 3 #[r.val, .int .i64 i, .int .i64 j] w fun e w' => e = .returned (.bool true) ∧ Below w.heap.size w w' := by
  cases hg : r.great 5 with
  | true => exact lcnt_great r i j w hl hr hg
  | false =>
    obtain ⟨h1, h2, h5⟩ := Rr.great5 hg
    have hL := hl h1
    have hR := hr h2
    have hn : r.ok = true → r.ways.length ≤ 1000000 := fun hok => Nat.le_trans (Rr.ways_le hok (h5 hok).1 (h5 hok).2) (by omega)
    obtain ⟨l, nf, c, hll, c20, c21⟩ := fews_any r hn
    exact lcnt_core r i j _ _ _ _ nf c l w hl hr hg (fun W hg => Fits_any r i j W (hL.grow hg) (hR.grow hg)) (fun W hg => rfits_any r i j W (hL.grow hg) (hR.grow hg)) (fun W hg => Count_any r W (hL.grow hg) (hR.grow hg)) (fun W hg => rcount_any r W (hL.grow hg) (hR.grow hg) hn) (fun W hg => c20 W (hL.grow hg) (hR.grow hg)) (fun W hg => c21 W (hL.grow hg) (hR.grow hg)) hll
theorem cans_any (r : Rr) (hn : r.ok = true → r.ways.length ≤ 1000000) : ∃ (l : List Int) (c : Int), l.length ≤ 1000 ∧ (∀ w, MksAt r.L r.lp w → MksAt r.R r.rp w → Calls Try.prog 23 #[r.val] w fun e w' => (∃ v, e = .returned (.tuple #[v, .int .i64 c]) ∧ IntsIn v l w') ∧ Below w.heap.size w w') ∧
    ∀ w, MksAt r.L r.lp w → MksAt r.R r.rp w → Calls Try.prog 24 #[r.val] w fun e w' => (∃ v, e = .returned (.tuple #[v, .int .i64 c]) ∧ IntsIn v l w') ∧ Below w.heap.size w w' := by
  cases hok : r.ok with
  | false =>
    refine ⟨[], 1, by simp, fun w hl hr => (can23_no r w hl hr hok (fun _ => 0)).mono ?_, fun w hl hr => (rcan_no r w hl hr hok).mono ?_⟩
    · rintro e w' ⟨⟨p, k, rfl, h2⟩, h3⟩
      exact ⟨⟨_, rfl, InsF.ints h2⟩, h3⟩
    · rintro e w' ⟨rfl, h⟩
      exact ⟨⟨_, rfl, IntsIn.nil _⟩, h⟩
  | true =>
    by_cases hz : r.ways = []
    · refine ⟨[], 4, by simp, fun w hl hr => (can23_zero r w hl hr hok ((Rr.hz_of hok).1 hz) (fun _ => 0)).mono ?_, fun w hl hr => (rcan_zero r w hl hr hok hz).mono ?_⟩
      · rintro e w' ⟨⟨p, k, rfl, h2⟩, h3⟩
        exact ⟨⟨_, rfl, InsF.ints h2⟩, h3⟩
      · rintro e w' ⟨rfl, h⟩
        exact ⟨⟨_, rfl, IntsIn.nil _⟩, h⟩
    · obtain ⟨b1, b2, -⟩ := Rr.ok_parts hok
      refine ⟨(List.range r.L.length).map (fun j => (r.lkd.ptn j : Int)), 0, by simp; omega, fun w hl hr => (can23_yes r w hl hr hok (fun h => hz ((Rr.hz_of hok).2 h))).mono ?_, fun w hl hr => (rcan_yes r w hl hr hok hz (hn hok)).mono ?_⟩
      · rintro e w' ⟨⟨p, k, rfl, h2⟩, h3⟩
        exact ⟨⟨_, rfl, InsF.ints h2⟩, h3⟩
      · rintro e w' ⟨⟨p, k, rfl, h2⟩, h3⟩
        refine ⟨⟨_, rfl, InsF.ints fun j hj => ?_⟩, h3⟩
        rw [Rr.ptn_is hok hj]
        exact h2 j hj
theorem sures_any (r : Rr) (hn : r.ok = true → r.ways.length ≤ 1000000) : ∃ (l : List Int) (c : Int), l.length ≤ 1000 ∧ (∀ w, MksAt r.L r.lp w → MksAt r.R r.rp w → Calls Try.prog 25 #[r.val] w fun e w' => (∃ v, e = .returned (.tuple #[v, .int .i64 c]) ∧ IntsIn v l w') ∧ Below w.heap.size w w') ∧
    ∀ w, MksAt r.L r.lp w → MksAt r.R r.rp w → Calls Try.prog 26 #[r.val] w fun e w' => (∃ v, e = .returned (.tuple #[v, .int .i64 c]) ∧ IntsIn v l w') ∧ Below w.heap.size w w' := by
  cases hok : r.ok with
  | false =>
    refine ⟨[], 1, by simp, fun w hl hr => (sure25_no r w hl hr hok (fun _ => 0)).mono ?_, fun w hl hr => (rsure_no r w hl hr hok).mono ?_⟩
    · rintro e w' ⟨⟨p, k, rfl, h2⟩, h3⟩
      exact ⟨⟨_, rfl, InsF.ints h2⟩, h3⟩
    · rintro e w' ⟨rfl, h⟩
      exact ⟨⟨_, rfl, IntsIn.nil _⟩, h⟩
  | true =>
    by_cases hz : r.ways = []
    · refine ⟨[], 4, by simp, fun w hl hr => (sure25_zero r w hl hr hok ((Rr.hz_of hok).1 hz) (fun _ => 0)).mono ?_, fun w hl hr => (rsure_zero r w hl hr hok hz).mono ?_⟩
      · rintro e w' ⟨⟨p, k, rfl, h2⟩, h3⟩
        exact ⟨⟨_, rfl, InsF.ints h2⟩, h3⟩
      · rintro e w' ⟨rfl, h⟩
        exact ⟨⟨_, rfl, IntsIn.nil _⟩, h⟩
    · obtain ⟨b1, b2, -⟩ := Rr.ok_parts hok
      obtain ⟨b0, l0, hw⟩ : ∃ b l, r.ways = b :: l := by
        cases h : r.ways with
        | nil => exact absurd h hz
        | cons b l => exact ⟨b, l, rfl⟩
      refine ⟨(List.range r.L.length).map (fun j => r.lkd.surTo j r.lkd.nR), 0, by simp; omega, fun w hl hr => (sure25_yes r w hl hr hok (fun h => hz ((Rr.hz_of hok).2 h))).mono ?_, fun w hl hr => (rsure_yes r w hl hr hok hz (hn hok) hw).mono ?_⟩
      · rintro e w' ⟨⟨p, k, rfl, h2⟩, h3⟩
        exact ⟨⟨_, rfl, InsF.ints h2⟩, h3⟩
      · rintro e w' ⟨⟨p, k, rfl, h2⟩, h3⟩
        refine ⟨⟨_, rfl, InsF.ints fun j hj => ?_⟩, h3⟩
        rw [Rr.sur_is hok hj hw, ← hw]
        exact h2 j hj
theorem rhid_any (r : Rr) (w : World) (hl : MksAt r.L r.lp w) (hr : MksAt r.R r.rp w) (hn : r.ok = true → r.ways.length ≤ 1000000) :
    Calls Try.prog 28 #[r.val] w fun e w' => e = .returned (.tuple #[.int .i64 r.hides.1, .int .i64 r.hides.2.1, .int .i64 r.hides.2.2]) ∧ Below w.heap.size w w' := by
  cases hok : r.ok with
  | false =>
    have h : r.hides = (0, 0, 1) := by unfold Rr.hides; rw [hok]; rfl
    rw [h]
    exact rhid_no r w hl hr hok
  | true =>
    by_cases hz : r.ways = []
    · have h : r.hides = (0, 0, 4) := by unfold Rr.hides; rw [if_pos hok, if_pos ((Rr.hz_of hok).1 hz)]
      rw [h]
      exact rhid_zero r w hl hr hok hz
    · have h : r.hides = (r.hdL, r.hdR, 0) := by unfold Rr.hides; rw [if_pos hok, if_neg (fun h => hz ((Rr.hz_of hok).2 h))]
      rw [h]
      exact rhid_yes r w hl hr hok hz (hn hok)
/-- MatchSets is true, whatever the rows are. -/
theorem lset_any (r : Rr) (w : World) (hl : r.L.length ≤ 24 → MksAt r.L r.lp w) (hr : r.R.length ≤ 24 → MksAt r.R r.rp w) :
    Calls Try.prog 4 #[r.val] w fun e w' => e = .returned (.bool true) ∧ Below w.heap.size w w' := by
  cases hg : r.great 5 with
  | true => exact lset_great r w hl hr hg
  | false =>
    obtain ⟨h1, h2, h5⟩ := Rr.great5 hg
    have hL := hl h1
    have hR := hr h2
    have hn : r.ok = true → r.ways.length ≤ 1000000 := fun hok => Nat.le_trans (Rr.ways_le hok (h5 hok).1 (h5 hok).2) (by omega)
    obtain ⟨l, c, hll, c23, c24⟩ := cans_any r hn
    obtain ⟨m, d, hml, c25, c26⟩ := sures_any r hn
    exact lset_core r c d _ _ _ l m w hl hr hg (fun W hg => c23 W (hL.grow hg) (hR.grow hg)) (fun W hg => c24 W (hL.grow hg) (hR.grow hg)) (fun W hg => c25 W (hL.grow hg) (hR.grow hg)) (fun W hg => c26 W (hL.grow hg) (hR.grow hg)) (fun W hg => Hides_any r W (hL.grow hg) (hR.grow hg)) (fun W hg => rhid_any r W (hL.grow hg) (hR.grow hg) hn) hll hml
theorem rshift_any (r : Rr) (i : Int) (w : World) (hl : MksAt r.L r.lp w) (hr : MksAt r.R r.rp w) (hL : r.L.length ≤ 1000) (hn : r.ok = true → r.ways.length ≤ 1000000) :
    Calls Try.prog 31 #[r.val, .int .i64 i] w fun e w' => e = .returned (.tuple #[.agg #[.int .i64 (r.shift i).1, .int .i64 (r.shift i).2.1], .int .i64 (r.shift i).2.2]) ∧ Below w.heap.size w w' := by
  cases hok : r.ok with
  | false =>
    have h : r.shift i = (0, 0, 1) := by unfold Rr.shift; rw [hok]; rfl
    rw [h]
    exact rshift_no r i w hl hr hok hL
  | true =>
    cases hm : isM i r.L.length with
    | false =>
      have h : r.shift i = (0, 0, 2) := by unfold Rr.shift; rw [if_pos hok, hm]; rfl
      rw [h]
      exact rshift_mark r i w hl hr hok hm hL
    | true =>
      by_cases hz : r.ways = []
      · have h : r.shift i = (0, 0, 4) := by unfold Rr.shift; rw [if_pos hok, hm, if_pos rfl, if_pos ((Rr.hz_of hok).1 hz)]
        rw [h]
        exact rshift_zero r i w hl hr hok hm hz hL
      · have hm' := hm
        unfold isM at hm'
        simp only [Bool.and_eq_true, decide_eq_true_eq] at hm'
        obtain ⟨n, rfl⟩ : ∃ n : Nat, i = n := ⟨i.toNat, by omega⟩
        rw [Rr.shift_ref hok (by omega) hz]
        exact rshift_yes r n w hl hr hok (by omega) hz (hn hok)
theorem rask_any (r : Rr) (w : World) (hl : MksAt r.L r.lp w) (hr : MksAt r.R r.rp w) (hn : r.ok = true → r.ways.length ≤ 1000000) :
    Calls Try.prog 33 #[r.val] w fun e w' => e = .returned (.tuple #[.int .i64 r.ask.1, .int .i64 r.ask.2.1, .int .i64 r.ask.2.2]) ∧ Below w.heap.size w w' := by
  cases hok : r.ok with
  | false =>
    have h : r.ask = (0, 0, 1) := by unfold Rr.ask; rw [hok]; rfl
    rw [h]
    exact rask_no r w hl hr hok
  | true =>
    by_cases hz : r.ways = []
    · have h : r.ask = (0, 0, 4) := by unfold Rr.ask; rw [if_pos hok, if_pos ((Rr.hz_of hok).1 hz)]
      rw [h]
      exact rask_zero r w hl hr hok hz
    · by_cases h1 : r.ways.length = 1
      · have h : r.ask = (0, 0, 4) := by unfold Rr.ask; rw [if_pos hok, if_neg (fun h => hz ((Rr.hz_of hok).2 h)), if_pos (by rw [Rr.all0_is hok]; exact h1)]
        rw [h]
        exact rask_one r w hl hr hok hz (hn hok) h1
      · have e : fstMin r.lkd.lvs (r.lkd.all0 + 1) r.L.length = fstMin (fun i => mxl (fun k => lef r.ways i ((k : Int) - 1)) (List.range (r.R.length + 1))) (r.ways.length + 1) r.L.length := by
          rw [Rr.all0_is hok]
          exact fstMin_congr fun i hi => Rr.lvs_is hok hi
        have h : r.ask = ((fstMin r.lkd.lvs (r.lkd.all0 + 1) r.L.length).1, (fstMin r.lkd.lvs (r.lkd.all0 + 1) r.L.length).2, 0) := by unfold Rr.ask; rw [if_pos hok, if_neg (fun h => hz ((Rr.hz_of hok).2 h)), if_neg (by rw [Rr.all0_is hok]; exact h1)]
        rw [h]
        exact rask_yes r w hl hr hok hz (hn hok) h1 e
/-- MatchAsks is true, whatever the rows and the number are. -/
theorem lask5_any (r : Rr) (i : Int) (w : World) (hl : r.L.length ≤ 24 → MksAt r.L r.lp w) (hr : r.R.length ≤ 24 → MksAt r.R r.rp w) :
    Calls Try.prog 5 #[r.val, .int .i64 i] w fun e w' => e = .returned (.bool true) ∧ Below w.heap.size w w' := by
  cases hg : r.great 5 with
  | true => exact lask5_great r i w hl hr hg
  | false =>
    obtain ⟨h1, h2, h5⟩ := Rr.great5 hg
    have hL := hl h1
    have hR := hr h2
    have hn : r.ok = true → r.ways.length ≤ 1000000 := fun hok => Nat.le_trans (Rr.ways_le hok (h5 hok).1 (h5 hok).2) (by omega)
    exact lask5_core r i _ _ _ _ _ _ w hl hr hg (fun W hg => Shift_any r i W (hL.grow hg) (hR.grow hg)) (fun W hg => rshift_any r i W (hL.grow hg) (hR.grow hg) (by omega) hn) (fun W hg => Ask_any r W (hL.grow hg) (hR.grow hg)) (fun W hg => rask_any r W (hL.grow hg) (hR.grow hg) hn)

end Go.Proofs.Ytjlaoiimbhlafaa
