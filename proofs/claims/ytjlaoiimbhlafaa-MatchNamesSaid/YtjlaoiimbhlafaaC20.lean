import Derived.Test.YtjlaoiimbhlafaaC12
import Derived.Test.YtjlaoiimbhlafaaC19
set_option linter.unusedVariables false
set_option linter.unusedSimpArgs false
namespace Go.Proofs.Ytjlaoiimbhlafaa
open Go.RowKit Go.Shelf

open MW
set_option maxHeartbeats 1000000 in
theorem partner_any (f : Nat → Nat) (c bw : Nat) (w : World) (hc : c < 11) (hb : Box w bw (wrow f) 153) :
    Calls Try.prog 102 #[.int .i64 c, .pointer (some ⟨bw, 0, none⟩)] w fun e w' => e = .returned (.bool (decide (0 < f c))) ∧ Below w.heap.size w w' := by
  have z := hb.cell (wrow_at f hc)
  have zl := hb.lt
  have h1 : (c : Int) < 11 := by omega
  have h1' : decide ((c : Int) < 11) = true := by simp; omega
  have h1'' : decide (c < 11) = true := by simp; omega
  have hd : decide ((0 : Int) < (f c : Nat)) = decide (0 < f c) := by rw [decide_eq_decide]; omega
  generalize f c = v at *
  clear hb
  go_enter Try.func102, Try.ntmps102
  go_wp2
  go_ret
  exact ⟨by simp, Below.refl _ _⟩
def Lk.ptn (k : Lk) (i : Nat) : Nat := gat (fun c => decide (0 < k.spl i c)) k.nR
set_option maxHeartbeats 1000000 in
theorem partners_any (k : Lk) (i : Nat) (w : World) (hk : k.Ok) (hi : i < k.nL) :
    Calls Try.prog 59 #[.agg k.cs.toArray, .int .i64 i] w fun e w' => e = .returned (.int .i64 (k.ptn i)) ∧ Below w.heap.size w w' := by
  have HS := Lib.hid (fun W => split_any k i W hk hi)
  have HB := Lib.hid (Box.fresh w k.cs 85)
  have HK := Lib.hid hk
  have hnR := hk.nR
  unfold Lk.ptn
  have HGA := Lib.hid (fun (v5 : Nat) (W : World) (hv : v5 < W.heap.size) hf => gatherP_any v5 k.nR (fun c => decide (0 < k.spl i c)) [v5] W (by omega) (by simpa using hv) hf)
  go_enter Try.func59, Try.ntmps59
  go_wp2_with (first | (with_reducible refine wpList_stopLoad (ty := 85) rfl ?_; unfold Stop; refine wpList_loadBox row85 k.cs_len (HB.out) rfl rfl rfl ?_) | (go_at_call 101; refine (HS.out _).mono ?_; rintro e w1 ⟨rfl, hb1⟩; have HB1 := Lib.hid hb1; have HBx := Lib.hid (HB.out.grow hb1); have HF := Lib.hid (Box.fresh w1 zero11 153); unfold zero11 at HF; clear hb1) | ((with_reducible refine wpList_stopStore (ty := 153) rfl ?_; unfold Stop; refine wpList_storeBox row153 (wrow_len _) rfl (wrow_one _) (HF.out) rfl rfl rfl rfl ?_); have HF2 := Lib.hid (show Box ((w1.alloc (Obj.cells #[.int .i64 0, .int .i64 0, .int .i64 0, .int .i64 0, .int .i64 0, .int .i64 0, .int .i64 0, .int .i64 0, .int .i64 0, .int .i64 0, .int .i64 0] 153)).setRow w1.heap.size (wrow (k.spl i)).toArray) w1.heap.size (wrow (k.spl i)) 153 from HF.out.row (vs := wrow (k.spl i))); have HG2 := Lib.hid (show Gr w1 ((w1.alloc (Obj.cells #[.int .i64 0, .int .i64 0, .int .i64 0, .int .i64 0, .int .i64 0, .int .i64 0, .int .i64 0, .int .i64 0, .int .i64 0, .int .i64 0, .int .i64 0] 153)).setRow w1.heap.size (wrow (k.spl i)).toArray) from below_setRow (Gr.alloc w1 _) (Nat.le_refl _) _); clear HF; generalize (w1.alloc (Obj.cells #[.int .i64 0, .int .i64 0, .int .i64 0, .int .i64 0, .int .i64 0, .int .i64 0, .int .i64 0, .int .i64 0, .int .i64 0, .int .i64 0, .int .i64 0] 153)).setRow w1.heap.size (wrow (k.spl i)).toArray = w2 at *; have HB2 := Lib.hid (HBx.out.grow HG2.out); have b0 := HB2.out.cell k.c0; have b1 := HB2.out.cell k.c1; have bl := HB2.out.lt; have bw := HF2.out.lt) | (go_at_call 63; refine (HGA.out _ _ bw (fun W' hK c hc => partner_any (k.spl i) c _ W' (by omega) (hK.box HF2.out (by simp)))).mono ?_; rintro e w3 ⟨rfl, hb3⟩))
  go_ret
  exact ⟨rfl, bgr ((Below.refl _ _).alloc (by first | (simp; done) | (simp; omega) | omega) _) (by first | (simp; done) | (simp; omega) | omega) ((Gr.tr HB1.out HG2.out).tr hb3)⟩
def Lk.all0 (k : Lk) : Nat := k.wy k.all 0 0 k.h
/-- The right mark that has all ways; -1: there is none. -/
def Lk.surTo (k : Lk) (i : Nat) (n : Nat) : Int := match (List.range n).find? fun c => k.spl i c == k.all0 with
  | some c => (c : Int)
  | none => -1
theorem find_pre {f : Nat → Bool} {n : Nat} (h : ∀ j, j < n → f j = false) (hn : f n = true) {m : Nat} (hm : n < m) : (List.range m).find? f = some n := by
  rw [List.find?_range_eq_some]
  exact ⟨hn, by simpa using hm, fun j hj => by simp [h j hj]⟩
theorem find_no {f : Nat → Bool} {m : Nat} (h : ∀ j, j < m → f j = false) : (List.range m).find? f = none := by
  rw [List.find?_eq_none]
  intro j hj
  simp [h j (List.mem_range.1 hj)]
set_option maxHeartbeats 1000000 in
theorem surePartner_any (k : Lk) (i : Nat) (w : World) (hk : k.Ok) (hi : i < k.nL) :
    Calls Try.prog 61 #[.agg k.cs.toArray, .int .i64 i] w fun e w' => e = .returned (.int .i64 (k.surTo i k.nR)) ∧ Below w.heap.size w w' := by
  have HS := Lib.hid (fun W => split_any k i W hk hi)
  have HB := Lib.hid (Box.fresh w k.cs 85)
  have hnR := hk.nR
  have HC := Lib.hid (fun W => count_any k k.all hk.m hk.r hk.nL hk.nR hk.h W)
  have h0 : k.wy k.all 0 0 k.h = k.all0 := rfl
  rw [h0] at HC
  have HSU := Lib.hid (rfl : k.surTo i k.nR = k.surTo i k.nR)
  go_enter Try.func61, Try.ntmps61
  go_wp2_with (first | (with_reducible refine wpList_stopLoad (ty := 85) rfl ?_; unfold Stop; refine wpList_loadBox row85 k.cs_len (HB.out) rfl rfl rfl ?_) | (with_reducible refine wpList_stopLoad (ty := 83) rfl ?_; unfold Stop; refine wpList_loadPart row83 (opts_len k.all) (HB.out) k.part rfl rfl rfl ?_) | (go_at_call 52; refine (HC.out _).mono ?_; rintro e w0 ⟨rfl, hb0⟩; have HB0 := Lib.hid hb0; have HBy := Lib.hid (HB.out.grow hb0); clear hb0) | (with_reducible refine wpList_stopLoad (ty := 85) rfl ?_; unfold Stop; refine wpList_loadBox row85 k.cs_len (HBy.out) rfl rfl rfl ?_) | (go_at_call 101; refine (HS.out _).mono ?_; rintro e w1 ⟨rfl, hb1⟩; have HB1 := Lib.hid (Gr.tr HB0.out hb1); have HBx := Lib.hid (HBy.out.grow hb1); have HF := Lib.hid (Box.fresh w1 zero11 153); unfold zero11 at HF; clear hb1) | ((with_reducible refine wpList_stopStore (ty := 153) rfl ?_; unfold Stop; refine wpList_storeBox row153 (wrow_len _) rfl (wrow_one _) (HF.out) rfl rfl rfl rfl ?_); have HF2 := Lib.hid (show Box ((w1.alloc (Obj.cells #[.int .i64 0, .int .i64 0, .int .i64 0, .int .i64 0, .int .i64 0, .int .i64 0, .int .i64 0, .int .i64 0, .int .i64 0, .int .i64 0, .int .i64 0] 153)).setRow w1.heap.size (wrow (k.spl i)).toArray) w1.heap.size (wrow (k.spl i)) 153 from HF.out.row (vs := wrow (k.spl i))); have HG2 := Lib.hid (show Gr w1 ((w1.alloc (Obj.cells #[.int .i64 0, .int .i64 0, .int .i64 0, .int .i64 0, .int .i64 0, .int .i64 0, .int .i64 0, .int .i64 0, .int .i64 0, .int .i64 0, .int .i64 0] 153)).setRow w1.heap.size (wrow (k.spl i)).toArray) from below_setRow (Gr.alloc w1 _) (Nat.le_refl _) _); clear HF; generalize (w1.alloc (Obj.cells #[.int .i64 0, .int .i64 0, .int .i64 0, .int .i64 0, .int .i64 0, .int .i64 0, .int .i64 0, .int .i64 0, .int .i64 0, .int .i64 0, .int .i64 0] 153)).setRow w1.heap.size (wrow (k.spl i)).toArray = w2 at *; have HB2 := Lib.hid (HBx.out.grow HG2.out); have b0 := HB2.out.cell k.c0; have b1 := HB2.out.cell k.c1; have bl := HB2.out.lt; have bw := HF2.out.lt))
  have HT := Lib.hid (show Below w.heap.size w w2 from bgr ((Below.refl _ _).alloc (by first | (simp; done) | (simp; omega) | omega) _) (by first | (simp; done) | (simp; omega) | omega) (Gr.tr HB1.out HG2.out))
  clear b0 HB HBx HB2 HB0 HBy HB1 HG2 h0
  go_loopw [19] (fun t wr => ∃ n : Nat, n ≤ k.nR ∧ t = .int .i64 n ∧ wr = w2 ∧ Hid (∀ j, j < n → (k.spl i j == k.all0) = false)) (fun t _ => (20 - intOf t).toNat)
  case atStart => exact ⟨0, Nat.zero_le _, rfl, rfl, Lib.hid fun j hj => absurd hj (by omega)⟩
  case round =>
    obtain ⟨n, hn, rfl, rfl, HN⟩ := hrel
    by_cases hlt : n < k.nR
    · have h1 : (n : Int) < 11 := by omega
      have h1' : decide ((n : Int) < 11) = true := by simp; omega
      have h1'' : decide (n < 11) = true := by simp; omega
      have zz := HF2.out.cell (wrow_at (k.spl i) (show n < 11 by omega))
      have he : ((k.spl i n : Int) == (k.all0 : Int)) = (k.spl i n == k.all0) := by rw [Bool.eq_iff_iff, beq_iff_eq, beq_iff_eq]; omega
      cases hq : k.spl i n == k.all0 with
      | true =>
        have hs : k.surTo i k.nR = n := by
          unfold Lk.surTo
          rw [find_pre (f := fun c => k.spl i c == k.all0) HN.out hq hlt]
        have HS2 := Lib.hid hs
        rw [hq] at he
        clear hs hq
        go_wp2_with fail
        go_ret
        exact ⟨by rw [HS2.out]; rfl, HT.out⟩
      | false =>
        have HQ := Lib.hid hq
        rw [hq] at he
        clear hq
        go_wp2_with fail
        refine ⟨⟨n + 1, by omega, by go_num, trivial, Lib.hid fun j hj => ?_⟩, by simp [intOf]; omega⟩
        by_cases hjn : j = n
        · rw [hjn]; exact HQ.out
        · exact HN.out j (by omega)
    · have hnn : n = k.nR := by omega
      have hs : k.surTo i k.nR = -1 := by
        unfold Lk.surTo
        rw [find_no (f := fun c => k.spl i c == k.all0) (fun j hj => HN.out j (by omega))]
      have HS2 := Lib.hid hs
      clear hs hnn
      go_wp2_with fail
      go_ret
      exact ⟨by rw [HS2.out]; rfl, HT.out⟩

end Go.Proofs.Ytjlaoiimbhlafaa
