import Derived.Test.YtjlaoiimbhlafaaC28
set_option linter.unusedVariables false
set_option linter.unusedSimpArgs false
namespace Go.Proofs.Ytjlaoiimbhlafaa
open Go.RowKit Go.Shelf

open MW
attribute [local go_sem] Oper.semAt_some run_store_func
def Lk.wh (k : Lk) (n : Int) : Lk := { k with h := n }
theorem Lk.wh_set (k : Lk) (a b : Int) : (k.wh a).cs.set 4 (.int .i64 b) = (k.wh b).cs := rfl
theorem Lk.wh_self (k : Lk) : k.wh k.h = k := rfl
theorem Lk.Ok.wh {k : Lk} (hk : k.Ok) {n : Int} (h : 0 ≤ n ∧ n ≤ 20) : (k.wh n).Ok := ⟨hk.nL, hk.nR, h, hk.m, hk.r⟩
/-- How many ways there are if so many marks can be hidden. -/
def Lk.at_ (k : Lk) (n : Int) : Nat := k.wy k.all 0 0 n
/-- How many marks are hidden at least. -/
def Lk.few (k : Lk) : Nat := ((List.range 21).find? fun n : Nat => k.at_ n != 0).getD 0
theorem Lk.few_is {k : Lk} {n : Nat} (hn : n ≤ 20) (h0 : k.at_ n ≠ 0) (hl : ∀ j : Nat, j < n → k.at_ j = 0) : k.few = n := by
  unfold Lk.few
  rw [find_pre (f := fun n : Nat => k.at_ n != 0) (n := n) (fun j hj => by simp [hl j hj]) (by simpa using h0) (by omega)]
  rfl
set_option maxRecDepth 100000 in
set_option maxHeartbeats 1000000 in
theorem fewest_any (k : Lk) (w : World) (hk : k.Ok) (h0 : k.all0 ≠ 0) :
    Calls Try.prog 55 #[.agg k.cs.toArray] w fun e w' => e = .returned (.int .i64 (k.few : Nat)) ∧ Below w.heap.size w w' := by
  have HB := Lib.hid (Box.fresh w k.cs 85)
  have hl := k.cs_len
  have HK := Lib.hid hk
  have H0 := Lib.hid h0
  have hh := hk.h
  have hW : Gr w (w.alloc (Obj.cells k.cs.toArray 85)) := Gr.alloc _ _
  have f4 := HB.out.free (i := 4)
  have z4 := HB.out.cell k.c4
  have l4 := HB.out.lt
  generalize hw1 : w.alloc (Obj.cells k.cs.toArray 85) = w1 at *
  have HW := Lib.hid hW
  clear hk h0 hW
  go_enter Try.func55, Try.ntmps55
  go_wp2_with fail
  have HB1 := Lib.hid (show Box (w1.setCell ⟨w.heap.size, 4, none⟩ (.int .i64 0)) w.heap.size (k.wh ((0 : Nat) : Int)).cs 85 by
    rw [← k.wh_set k.h, k.wh_self]
    exact HB.out.put 4 _)
  have HO1 := Lib.hid (Only.set w1 (b := w.heap.size) 4 (.int .i64 0))
  clear HB z4 f4 l4
  generalize w1.setCell ⟨w.heap.size, 4, none⟩ (.int .i64 0) = w2 at *
  go_loopw [] (fun wr => ∃ n : Nat, n ≤ 20 ∧ Hid (Box wr w.heap.size (k.wh n).cs 85) ∧ Hid (Only w.heap.size w1 wr) ∧ Hid (∀ j : Nat, j < n → k.at_ j = 0)) (fun wr => (30 - intOf ((wr.cell? ⟨w.heap.size, 4, none⟩).getD undef)).toNat)
  case atStart => exact ⟨0, by omega, HB1, HO1, Lib.hid fun j hj => absurd hj (by omega)⟩
  case round =>
    obtain ⟨n, hn, HX, HO, HN⟩ := hrel
    have HC := Lib.hid (fun W => count_any (k.wh n) k.all HK.out.m HK.out.r HK.out.nL HK.out.nR (show 0 ≤ (n : Int) ∧ (n : Int) ≤ 20 by omega) W)
    have hc0 : (k.wh n).wy k.all 0 0 (k.wh n).h = k.at_ n := rfl
    rw [hc0] at HC
    have z4 := HX.out.cell (Lk.c4 _)
    have hz4 : (k.wh n).h = n := rfl
    rw [hz4] at z4
    have l4 := HX.out.lt
    have hm0 : (30 - intOf ((wr.cell? ⟨w.heap.size, 4, none⟩).getD undef)).toNat = 30 - n := by rw [z4]; first | (simp [intOf]; done) | (simp [intOf]; omega)
    have HM0 := Lib.hid hm0
    clear hm0 hc0 hz4
    cases hq : (k.at_ n == 0) with
    | true =>
      have he : ((k.at_ n : Int) == 0) = true := by rw [← hq, Bool.eq_iff_iff, beq_iff_eq, beq_iff_eq]; omega
      have hn20 : n < 20 := by
        by_cases hlt : n < 20
        · exact hlt
        · exfalso
          have h1 : k.at_ k.h ≠ 0 := H0.out
          have h2 : k.at_ n = 0 := by simpa using hq
          have h3 : k.h = ((k.h.toNat : Nat) : Int) := by omega
          by_cases h4 : k.h.toNat < n
          · rw [h3] at h1
            exact h1 (HN.out _ h4)
          · have h5 : k.h = n := by omega
            rw [h5] at h1
            exact h1 h2
      have HQ := Lib.hid (show k.at_ n = 0 by simpa using hq)
      clear hq
      go_wp2_with (first | (with_reducible refine wpList_stopLoad (ty := 85) rfl ?_; unfold Stop; refine wpList_loadBox row85 ((k.wh n).cs_len) (HX.out) rfl rfl rfl ?_) | (with_reducible refine wpList_stopLoad (ty := 83) rfl ?_; unfold Stop; refine wpList_loadPart row83 (opts_len k.all) (HX.out) (k.wh n).part rfl rfl rfl ?_) | (go_at_call 52; refine (HC.out _).mono ?_; rintro e w3 ⟨rfl, hb3⟩; have HG3 := Lib.hid (show Gr wr w3 from hb3); have HX3 := Lib.hid (HX.out.grow hb3); have y4 := HX3.out.cell (Lk.c4 _); have f4 := HX3.out.free (i := 4); have l3 := HX3.out.lt; rw [show (k.wh n).h = (n : Int) from rfl] at y4; clear hb3))
      have HX4 := HX3.out.put 4 (.int .i64 ((n : Int) + 1))
      rw [k.wh_set] at HX4
      have hcast : ((n + 1 : Nat) : Int) = (n : Int) + 1 := by omega
      refine ⟨⟨n + 1, by omega, Lib.hid (by rw [hcast]; exact HX4), Lib.hid ((HO.out.tr (Only.of l4 HG3.out)).tr (Only.set _ _ _)), Lib.hid fun j hj => ?_⟩, ?_⟩
      · by_cases hjn : j = n
        · rw [hjn]; exact HQ.out
        · exact HN.out j (by omega)
      · rw [HM0.out, HX4.cell (Lk.c4 _)]
        show (30 - intOf (.int .i64 ((n : Int) + 1))).toNat < _
        simp only [intOf]
        omega
    | false =>
      have he : ((k.at_ n : Int) == 0) = false := by rw [← hq, Bool.eq_iff_iff, beq_iff_eq, beq_iff_eq]; omega
      have HF := Lib.hid (Lk.few_is hn (by simpa using hq) HN.out)
      clear hq
      go_wp2_with (first | (with_reducible refine wpList_stopLoad (ty := 85) rfl ?_; unfold Stop; refine wpList_loadBox row85 ((k.wh n).cs_len) (HX.out) rfl rfl rfl ?_) | (with_reducible refine wpList_stopLoad (ty := 83) rfl ?_; unfold Stop; refine wpList_loadPart row83 (opts_len k.all) (HX.out) (k.wh n).part rfl rfl rfl ?_) | (go_at_call 52; refine (HC.out _).mono ?_; rintro e w3 ⟨rfl, hb3⟩; have HG3 := Lib.hid (show Gr wr w3 from hb3); have HX3 := Lib.hid (HX.out.grow hb3); have y4 := HX3.out.cell (Lk.c4 _); have l3 := HX3.out.lt; rw [show (k.wh n).h = (n : Int) from rfl] at y4; clear hb3))
      go_ret
      exact ⟨by rw [HF.out]; rfl, HW.out.trans (Below.mono (HO.out.tr (Only.of l4 HG3.out)).low (Nat.le_refl _))⟩

end Go.Proofs.Ytjlaoiimbhlafaa
