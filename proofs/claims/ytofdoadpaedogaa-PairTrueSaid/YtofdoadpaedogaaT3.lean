import Derived.Test.YtofdoadpaedogaaT2
namespace Go.Proofs.Ytofdoadpaedogaa
open Go.RowKit

set_option maxHeartbeats 400000 in
theorem steady_any (wit : Value) (lo hi : Int) (sl : Bool) (w : World) :
    Calls Try.prog 62 #[.agg #[wit, .int .i64 lo, .int .i64 hi, .bool sl]] w fun e w' => e = .returned (.agg #[.int .i64 (ovl (lo, hi) (0, 2000)).1, .int .i64 (ovl (lo, hi) (0, 2000)).2]) ∧ Below w.heap.size w w' := by
  go_enter Try.func62, Try.ntmps62
  go_wp2
  refine region2 5 ?_ ?_ ?_
  · kernel_rfl
  · kernel_rfl
  simp only [List.take_succ_cons, List.take_zero, List.drop_succ_cons, List.drop_zero]
  apply chain_eq (D := [(1, none)]) rfl (by kernel_rfl)
  · intro ρ W ⟨p1, p2, p3⟩ hG hF K hK; (try simp [FactsD] at hF); have ⟨hc, hf, hz⟩ := bcell hG; go_simp; exact hK _ (gives_val)
  apply chain_eq (D := [(3, some 0)]) rfl (by kernel_rfl)
  · intro ρ W ⟨p1, p2, p3⟩ hG hF K hK; (try simp [FactsD] at hF); have ⟨hc, hf, hz⟩ := bcell hG; go_simp; exact hK _ (gives_val)
  apply chain_eq (D := []) rfl (by kernel_rfl)
  · intro ρ W ⟨p1, p2, p3⟩ hG hF K hK; (try simp [FactsD] at hF); have ⟨hc, hf, hz⟩ := bcell hG; go_simp; exact hK _ (gives_call (span_any _ _ _))
  refine chain_any (V := SpansAt [(0, 2000)]) (D := [(5, some 0)]) rfl (by kernel_rfl) (SpansAt.lasts _) ?_ ?_
  · intro ρ W ⟨p1, p2, p3⟩ hG hF K hK; (try simp [FactsD] at hF); have ⟨hc, hf, hz⟩ := bcell hG; go_simp; exact hK _ (⟨SpansAt.one _ _ _ _, Gr.alloc _ _⟩)
  apply chain_eq (D := [(4, some 2), (6, some 0)]) rfl (by kernel_rfl)
  · intro ρ W ⟨p1, p2, p3⟩ hG hF K hK; (try simp [FactsD] at hF); have ⟨hc, hf, hz⟩ := bcell hG; obtain ⟨hF1, hF2⟩ := hF; go_simp; exact hK _ (gives_call (overlap_any _ _ _ _ _ hF2))
  refine chain_done ?_
  intro vs W hG hV
  obtain ⟨e4, -⟩ := hV
  simp only [Nat.reduceSub] at e4
  simp only [lay, Act.put, List.getElem?_toArray, List.getElem?_cons_succ, List.getElem?_cons_zero, Option.bind_some, List.setIfInBounds_toArray, List.set_cons_succ, List.set_cons_zero]
  generalize vs 0 = v0
  generalize vs 1 = v1
  generalize vs 2 = v2
  generalize vs 3 = v3
  generalize vs 4 = v4 at *
  subst e4
  obtain ⟨hc, hf, hz⟩ := bcell hG
  go_wp2
  exact bodyPost_ret (v := .agg #[.int .i64 (ovl (lo, hi) (0, 2000)).1, .int .i64 (ovl (lo, hi) (0, 2000)).2]) (by simp [results, Try.results62, go_sem, hc]) rfl ⟨rfl, (((bgr (((Below.refl _ _).alloc (by first | (simp; done) | (simp; omega) | omega) _).alloc (by first | (simp; done) | (simp; omega) | omega) _) (by first | (simp; done) | (simp; omega) | omega) hG).setCell (by first | (simp; done) | (simp; omega) | omega) _).setCell (by first | (simp; done) | (simp; omega) | omega) _)⟩
def imin (a b : Int) : Int := if b < a then b else a
def imax (a b : Int) : Int := if a < b then b else a
set_option maxHeartbeats 400000 in
theorem cover_any (lo hi n : Int) (w : World) :
    Calls Try.prog 83 #[.agg #[.int .i64 lo, .int .i64 hi], .int .i64 n] w fun e w' => e = .returned (.agg #[.int .i64 (imin lo n), .int .i64 (imax hi n)]) ∧ Below w.heap.size w w' := by
  by_cases h : n < lo <;> by_cases k : hi < n
  all_goals
    simp only [imin, imax, h, k, if_true, if_false]
    go_enter Try.func83, Try.ntmps83
    go_wp2_with (go_at_call 53; refine (span_any _ _ _).mono ?_; rintro e w1 ⟨rfl, hb1⟩; obtain ⟨hc1, hf1, hz1⟩ := bcell hb1)
  · exact bodyPost_ret (v := .agg #[.int .i64 n, .int .i64 n]) (by simp [results, Try.results83, go_sem, hc1]) rfl ⟨rfl, (((bgr (((Below.refl _ _).alloc (by first | (simp; done) | (simp; omega) | omega) _).alloc (by first | (simp; done) | (simp; omega) | omega) _) (by first | (simp; done) | (simp; omega) | omega) hb1).setCell (by first | (simp; done) | (simp; omega) | omega) _).setCell (by first | (simp; done) | (simp; omega) | omega) _)⟩
  · exact bodyPost_ret (v := .agg #[.int .i64 n, .int .i64 hi]) (by simp [results, Try.results83, go_sem, hc1]) rfl ⟨rfl, (((bgr (((Below.refl _ _).alloc (by first | (simp; done) | (simp; omega) | omega) _).alloc (by first | (simp; done) | (simp; omega) | omega) _) (by first | (simp; done) | (simp; omega) | omega) hb1).setCell (by first | (simp; done) | (simp; omega) | omega) _).setCell (by first | (simp; done) | (simp; omega) | omega) _)⟩
  · exact bodyPost_ret (v := .agg #[.int .i64 lo, .int .i64 n]) (by simp [results, Try.results83, go_sem, hc1]) rfl ⟨rfl, (((bgr (((Below.refl _ _).alloc (by first | (simp; done) | (simp; omega) | omega) _).alloc (by first | (simp; done) | (simp; omega) | omega) _) (by first | (simp; done) | (simp; omega) | omega) hb1).setCell (by first | (simp; done) | (simp; omega) | omega) _).setCell (by first | (simp; done) | (simp; omega) | omega) _)⟩
  · exact bodyPost_ret (v := .agg #[.int .i64 lo, .int .i64 hi]) (by simp [results, Try.results83, go_sem, hc1]) rfl ⟨rfl, (((bgr (((Below.refl _ _).alloc (by first | (simp; done) | (simp; omega) | omega) _).alloc (by first | (simp; done) | (simp; omega) | omega) _) (by first | (simp; done) | (simp; omega) | omega) hb1).setCell (by first | (simp; done) | (simp; omega) | omega) _).setCell (by first | (simp; done) | (simp; omega) | omega) _)⟩
set_option maxHeartbeats 400000 in
theorem isSlanted_any (wit : Value) (lo hi plo phi : Int) (sl : Bool) (w : World) :
    Calls Try.prog 93 #[.agg #[wit, .int .i64 lo, .int .i64 hi, .bool sl], .agg #[.int .i64 plo, .int .i64 phi]] w fun e w' => e = .returned (.bool sl) ∧ Below w.heap.size w w' := by
  go_enter Try.func93, Try.ntmps93
  go_wp2
  go_ret
  exact ⟨rfl, ((Below.refl _ _).alloc (Nat.le_refl _) _).alloc (by simp) _⟩
set_option maxHeartbeats 400000 in
theorem isBehind_any (wit : Value) (lo hi plo phi : Int) (sl : Bool) (w : World) :
    Calls Try.prog 94 #[.agg #[wit, .int .i64 lo, .int .i64 hi, .bool sl], .agg #[.int .i64 plo, .int .i64 phi]] w fun e w' => e = .returned (.bool (decide (hi < 0))) ∧ Below w.heap.size w w' := by
  go_enter Try.func94, Try.ntmps94
  go_wp2
  go_ret
  exact ⟨rfl, ((Below.refl _ _).alloc (Nat.le_refl _) _).alloc (by simp) _⟩
theorem mulb {a b : Int} (h0 : -20000 ≤ a) (h1 : a ≤ 20000) (h2 : 0 ≤ b) (h3 : b ≤ 1073741824) : -21474836480000 ≤ a * b ∧ a * b ≤ 21474836480000 := by
  constructor
  · have : -20000 * b ≤ a * b := Int.mul_le_mul_of_nonneg_right h0 h2
    omega
  · have : a * b ≤ 20000 * b := Int.mul_le_mul_of_nonneg_right h1 h2
    omega
set_option maxHeartbeats 400000 in
theorem markPowers_any (m lo hi : Int) (w : World) (h0 : -10000 ≤ lo) (h1 : lo ≤ 10000) (h2 : -10000 ≤ hi) (h3 : hi ≤ 10000) (h4 : 0 ≤ m) (h5 : m ≤ 1073741824) :
    Calls Try.prog 122 #[.int .i64 m, .agg #[.int .i64 lo, .int .i64 hi]] w fun e w' => e = .returned (.agg #[.int .i64 (lo * m), .int .i64 ((hi + 1) * m - 1)]) ∧ Below w.heap.size w w' := by
  obtain ⟨m0, m1⟩ := mulb (a := lo) (b := m) (by omega) (by omega) h4 h5
  obtain ⟨m2, m3⟩ := mulb (a := hi + 1) (b := m) (by omega) (by omega) h4 h5
  go_enter Try.func122, Try.ntmps122
  go_wp2_with (go_at_call 53; refine (span_any _ _ _).mono ?_; rintro e w1 ⟨rfl, hb1⟩; obtain ⟨hc1, hf1, hz1⟩ := bcell hb1)
  exact bodyPost_ret (v := .agg #[.int .i64 (lo * m), .int .i64 ((hi + 1) * m - 1)]) (by simp [results, Try.results122, go_sem, hc1]) rfl ⟨rfl, (((bgr (((Below.refl _ _).alloc (by first | (simp; done) | (simp; omega) | omega) _).alloc (by first | (simp; done) | (simp; omega) | omega) _) (by first | (simp; done) | (simp; omega) | omega) hb1).setCell (by first | (simp; done) | (simp; omega) | omega) _).setCell (by first | (simp; done) | (simp; omega) | omega) _)⟩
set_option maxHeartbeats 400000 in
theorem farPowers_any (near far lo hi : Int) (w : World) (h0 : -10000 ≤ lo) (h1 : lo ≤ 10000) (h2 : -10000 ≤ hi) (h3 : hi ≤ 10000) (h4 : 0 ≤ near) (h5 : near ≤ 1073741824) (h6 : 0 ≤ far) (h7 : far ≤ 1073741824) :
    Calls Try.prog 120 #[.agg #[.int .i64 near, .int .i64 far], .agg #[.int .i64 lo, .int .i64 hi]] w fun e w' => e = .returned (.agg #[.int .i64 (lo * near), .int .i64 ((hi + 1) * far - 1)]) ∧ Below w.heap.size w w' := by
  obtain ⟨m0, m1⟩ := mulb (a := lo) (b := near) (by omega) (by omega) h4 h5
  obtain ⟨m2, m3⟩ := mulb (a := hi + 1) (b := far) (by omega) (by omega) h6 h7
  go_enter Try.func120, Try.ntmps120
  go_wp2_with (go_at_call 53; refine (span_any _ _ _).mono ?_; rintro e w1 ⟨rfl, hb1⟩; obtain ⟨hc1, hf1, hz1⟩ := bcell hb1)
  exact bodyPost_ret (v := .agg #[.int .i64 (lo * near), .int .i64 ((hi + 1) * far - 1)]) (by simp [results, Try.results120, go_sem, hc1]) rfl ⟨rfl, (((bgr ((((Below.refl _ _).alloc (by first | (simp; done) | (simp; omega) | omega) _).alloc (by first | (simp; done) | (simp; omega) | omega) _).alloc (by first | (simp; done) | (simp; omega) | omega) _) (by first | (simp; done) | (simp; omega) | omega) hb1).setCell (by first | (simp; done) | (simp; omega) | omega) _).setCell (by first | (simp; done) | (simp; omega) | omega) _)⟩
set_option maxHeartbeats 400000 in
theorem markDistances_any (m plo phi lo hi : Int) (w : World) :
    Calls Try.prog 121 #[.int .i64 m, .agg #[.int .i64 plo, .int .i64 phi], .agg #[.int .i64 lo, .int .i64 hi]] w fun e w' => e = .returned (.agg #[.int .i64 m, .int .i64 m]) ∧ Below w.heap.size w w' := by
  go_enter Try.func121, Try.ntmps121
  go_wp2_with (go_at_call 53; refine (span_any _ _ _).mono ?_; rintro e w1 ⟨rfl, hb1⟩; obtain ⟨hc1, hf1, hz1⟩ := bcell hb1)
  exact bodyPost_ret (v := .agg #[.int .i64 m, .int .i64 m]) (by simp [results, Try.results121, go_sem, hc1]) rfl ⟨rfl, (((bgr ((((Below.refl _ _).alloc (by first | (simp; done) | (simp; omega) | omega) _).alloc (by first | (simp; done) | (simp; omega) | omega) _).alloc (by first | (simp; done) | (simp; omega) | omega) _) (by first | (simp; done) | (simp; omega) | omega) hb1).setCell (by first | (simp; done) | (simp; omega) | omega) _).setCell (by first | (simp; done) | (simp; omega) | omega) _)⟩
end Go.Proofs.Ytofdoadpaedogaa
