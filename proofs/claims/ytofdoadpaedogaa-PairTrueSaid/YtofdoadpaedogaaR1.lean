import Derived.Test.YtofdoadpaedogaaT5
import Derived.Test.YtofdoadpaedogaaT3
namespace Go.Proofs.Ytofdoadpaedogaa
open Go.RowKit

set_option maxHeartbeats 400000 in
theorem rin_any (n lo hi : Int) (w : World) :
    Calls Try.prog 54 #[.int .i64 n, .int .i64 lo, .int .i64 hi] w fun e w' => e = .returned (.bool (decide (lo ≤ n) && decide (n ≤ hi))) ∧ Below w.heap.size w w' := by
  by_cases h : lo ≤ n
  · have h' : decide (lo ≤ n) = true := by simpa using h
    go_enter Try.func54, Try.ntmps54
    go_wp2
    go_ret
    exact ⟨by simp [h], Below.refl _ _⟩
  · have h' : decide (lo ≤ n) = false := by simpa using h
    go_enter Try.func54, Try.ntmps54
    go_wp2
    go_ret
    exact ⟨by simp, Below.refl _ _⟩
set_option maxHeartbeats 600000 in
theorem rspan_any (lo hi a b : Int) (w : World) :
    Calls Try.prog 69 #[.agg #[.int .i64 lo, .int .i64 hi], .int .i64 a, .int .i64 b] w fun e w' => e = .returned (.bool (okSp a b (lo, hi))) ∧ Below w.heap.size w w' := by
  by_cases h : a ≤ lo
  · have h' : decide (a ≤ lo) = true := by simpa using h
    by_cases h2 : lo ≤ hi
    · have h2' : decide (lo ≤ hi) = true := by simpa using h2
      go_enter Try.func69, Try.ntmps69
      go_wp2
      go_ret
      exact ⟨by simp [okSp, h, h2], (Below.refl _ _).alloc (Nat.le_refl _) _⟩
    · have h2' : decide (lo ≤ hi) = false := by simpa using h2
      go_enter Try.func69, Try.ntmps69
      go_wp2
      go_ret
      exact ⟨by simp [okSp, h2'], (Below.refl _ _).alloc (Nat.le_refl _) _⟩
  · have h' : decide (a ≤ lo) = false := by simpa using h
    go_enter Try.func69, Try.ntmps69
    go_wp2
    go_ret
    exact ⟨by simp [okSp, h'], (Below.refl _ _).alloc (Nat.le_refl _) _⟩
theorem rspan_is {lo hi a b : Int} {v : Bool} (h : okSp a b (lo, hi) = v) (w : World) :
    Calls Try.prog 69 #[.agg #[.int .i64 lo, .int .i64 hi], .int .i64 a, .int .i64 b] w fun e w' => e = .returned (.bool v) ∧ Below w.heap.size w w' := by
  rw [← h]; exact rspan_any lo hi a b w
theorem rin_is {n lo hi : Int} {v : Bool} (h : (decide (lo ≤ n) && decide (n ≤ hi)) = v) (w : World) :
    Calls Try.prog 54 #[.int .i64 n, .int .i64 lo, .int .i64 hi] w fun e w' => e = .returned (.bool v) ∧ Below w.heap.size w w' := by
  rw [← h]; exact rin_any n lo hi w
set_option maxHeartbeats 600000 in
theorem rplace_any (a b c d : Int) (w : World) :
    Calls Try.prog 68 #[.agg #[.int .i64 a, .int .i64 b, .int .i64 c, .int .i64 d]] w fun e w' => e = .returned (.bool (okSp (-4000) 4000 (a, b) && okSp (-4000) 4000 (c, d))) ∧ Below w.heap.size w w' := by
  cases h : okSp (-4000) 4000 (a, b) with
  | true =>
    rw [Bool.true_and]
    have HS := Lib.hid h
    clear h
    go_enter Try.func68, Try.ntmps68
    go_wp2_with (first | (go_at_call 69; refine (rspan_is (by simpa using HS.out) _).mono ?_; rintro e w1 ⟨rfl, hb1⟩; obtain ⟨hc1, hf1, hz1⟩ := bcell (hb1)) | (go_at_call 69; refine (rspan_any _ _ _ _ _).mono ?_; rintro e w2 ⟨rfl, hb2⟩; obtain ⟨hc2, hf2, hz2⟩ := bcell (Gr.tr hb1 hb2)))
    go_ret
    exact ⟨rfl, (bgr ((Below.refl _ _).alloc (by first | (simp; done) | (simp; omega) | omega) _) (by first | (simp; done) | (simp; omega) | omega) (Gr.tr hb1 hb2))⟩
  | false =>
    rw [Bool.false_and]
    have HS := Lib.hid h
    clear h
    go_enter Try.func68, Try.ntmps68
    go_wp2_with (go_at_call 69; refine (rspan_is (by simpa using HS.out) _).mono ?_; rintro e w1 ⟨rfl, hb1⟩; obtain ⟨hc1, hf1, hz1⟩ := bcell (hb1))
    go_ret
    exact ⟨rfl, (bgr ((Below.refl _ _).alloc (by first | (simp; done) | (simp; omega) | omega) _) (by first | (simp; done) | (simp; omega) | omega) hb1)⟩
theorem rplace_is {a b c d : Int} {v : Bool} (h : (okSp (-4000) 4000 (a, b) && okSp (-4000) 4000 (c, d)) = v) (w : World) :
    Calls Try.prog 68 #[.agg #[.int .i64 a, .int .i64 b, .int .i64 c, .int .i64 d]] w fun e w' => e = .returned (.bool v) ∧ Below w.heap.size w w' := by
  rw [← h]; exact rplace_any a b c d w
set_option maxHeartbeats 400000 in
theorem rempty_any (lo hi : Int) (w : World) :
    Calls Try.prog 57 #[.agg #[.int .i64 lo, .int .i64 hi]] w fun e w' => e = .returned (.bool (decide (hi < lo))) ∧ Below w.heap.size w w' := by
  go_enter Try.func57, Try.ntmps57
  go_wp2
  go_ret
  exact ⟨rfl, (Below.refl _ _).alloc (Nat.le_refl _) _⟩
set_option maxHeartbeats 400000 in
theorem rnone_any (w : World) :
    Calls Try.prog 78 #[] w fun e w' => e = .returned (.agg #[.int .i64 1, .int .i64 0]) ∧ Below w.heap.size w w' := by
  go_enter Try.func78, Try.ntmps78
  go_wp2
  exact bodyPost_ret (v := .agg #[.int .i64 1, .int .i64 0]) (by simp [results, Try.results78, go_sem]) rfl ⟨rfl, ((Below.refl _ _).alloc (by first | (simp; done) | (simp; omega) | omega) _)⟩
set_option maxHeartbeats 600000 in
theorem rcommon_any (a b c d : Int) (w : World) :
    Calls Try.prog 58 #[.agg #[.int .i64 a, .int .i64 b], .agg #[.int .i64 c, .int .i64 d]] w fun e w' => e = .returned (.agg #[.int .i64 (ovl (a, b) (c, d)).1, .int .i64 (ovl (a, b) (c, d)).2]) ∧ Below w.heap.size w w' := by
  have hmx : ∀ (x y : Int), (if x < y then y else x) = imax x y := fun _ _ => rfl
  have hmn : ∀ (x y : Int), (if y < x then y else x) = imin x y := fun _ _ => rfl
  go_enter Try.func58, Try.ntmps58
  go_wp2
  exact bodyPost_ret (v := .agg #[.int .i64 (ovl (a, b) (c, d)).1, .int .i64 (ovl (a, b) (c, d)).2]) (by simp [results, Try.results58, go_sem, ovl, imin, imax]) rfl ⟨rfl, ((((Below.refl _ _).alloc (by first | (simp; done) | (simp; omega) | omega) _).alloc (by first | (simp; done) | (simp; omega) | omega) _).alloc (by first | (simp; done) | (simp; omega) | omega) _)⟩
def inI (x : Int) : Prop := -9223372036854775808 ≤ x ∧ x ≤ 9223372036854775807
set_option maxHeartbeats 800000 in
theorem rof_any (xa xb xc xd xe xf xg xh xz : Int) (w : World) (ha : -4000 ≤ xa ∧ xa ≤ 4000) (hb : -4000 ≤ xb ∧ xb ≤ 4000) (he : -4000 ≤ xe ∧ xe ≤ 4000) (hf : -4000 ≤ xf ∧ xf ≤ 4000) :
    Calls Try.prog 45 #[.agg #[.int .i64 xa, .int .i64 xb, .int .i64 xc, .int .i64 xd, .int .i64 xe, .int .i64 xf, .int .i64 xg, .int .i64 xh, .int .i64 xz]] w fun e w' => e = .returned (.agg #[.int .i64 (xa - xf), .int .i64 (xb - xe)]) ∧ Below w.heap.size w w' := by
  obtain ⟨a0, a1⟩ := ha
  obtain ⟨b0, b1⟩ := hb
  obtain ⟨e0, e1⟩ := he
  obtain ⟨f0, f1⟩ := hf
  go_enter Try.func45, Try.ntmps45
  go_wp2
  exact bodyPost_ret (v := .agg #[.int .i64 (xa - xf), .int .i64 (xb - xe)]) (by simp [results, Try.results45, go_sem]) rfl ⟨rfl, (((Below.refl _ _).alloc (by first | (simp; done) | (simp; omega) | omega) _).alloc (by first | (simp; done) | (simp; omega) | omega) _)⟩
set_option maxHeartbeats 800000 in
theorem rlevel_any (xa xb xc xd xe xf xg xh xz : Int) (y : Int) (w : World) (hd : -4000 ≤ xd ∧ xd ≤ 4000) (hh : -4000 ≤ xh ∧ xh ≤ 4000) (hy : 0 ≤ y ∧ y ≤ 1000) :
    Calls Try.prog 60 #[.agg #[.int .i64 xa, .int .i64 xb, .int .i64 xc, .int .i64 xd, .int .i64 xe, .int .i64 xf, .int .i64 xg, .int .i64 xh, .int .i64 xz], .int .i64 y] w fun e w' => e = .returned (.bool (decide (xc ≤ xh + y) && decide (xg ≤ xd + y))) ∧ Below w.heap.size w w' := by
  obtain ⟨d0, d1⟩ := hd
  obtain ⟨h0, h1⟩ := hh
  obtain ⟨y0, y1⟩ := hy
  cases hc : decide (xc ≤ xh + y) with
  | true =>
    go_enter Try.func60, Try.ntmps60
    go_wp2
    go_ret
    exact ⟨by simp, ((Below.refl _ _).alloc (by first | (simp; done) | (simp; omega) | omega) _)⟩
  | false =>
    go_enter Try.func60, Try.ntmps60
    go_wp2
    go_ret
    exact ⟨by simp, ((Below.refl _ _).alloc (by first | (simp; done) | (simp; omega) | omega) _)⟩
end Go.Proofs.Ytofdoadpaedogaa
