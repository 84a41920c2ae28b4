import Derived.Test.YtcngaohfemdfjaaGreatE20
set_option linter.unusedVariables false
set_option linter.unusedSimpArgs false
set_option maxRecDepth 100000
set_option maxHeartbeats 60000000
namespace Go.Proofs.YtcngaohfemdfjaaGreat
open Go.RowKit
theorem r3in_any (n lo hi : Int) (w : World) :
    Calls Tryz.prog 66 #[.int .i64 n, .int .i64 lo, .int .i64 hi] w fun e w' => e = .returned (.bool (decide (lo ≤ n) && decide (n ≤ hi))) ∧ Below w.heap.size w w' := by
  by_cases h : lo ≤ n
  · have h' : decide (lo ≤ n) = true := by simpa using h
    go_enter Tryz.func66, Tryz.ntmps66
    go_wp2
    go_ret
    exact ⟨by simp [h], Below.refl _ _⟩
  · have h' : decide (lo ≤ n) = false := by simpa using h
    go_enter Tryz.func66, Tryz.ntmps66
    go_wp2
    go_ret
    exact ⟨by simp, Below.refl _ _⟩
theorem r3in_is {n lo hi : Int} {v : Bool} (h : (decide (lo ≤ n) && decide (n ≤ hi)) = v) (w : World) :
    Calls Tryz.prog 66 #[.int .i64 n, .int .i64 lo, .int .i64 hi] w fun e w' => e = .returned (.bool v) ∧ Below w.heap.size w w' := by
  rw [← h]; exact r3in_any n lo hi w
theorem rcard_0 (k : Cd) (w : World) (hT : TsA k.p.l (.slice k.sp k.p.l.length k.cap) w) (h0 : k.vd 0 = false) :
    Calls Tryz.prog 24 #[.agg k.cs.toArray] w fun e w' => e = .returned (.bool false) ∧ Below w.heap.size w w' := by
  have K0 := Lib.hid (show (decide (1 ≤ k.half) && decide (k.half ≤ 4000)) = false from h0)
  clear h0
  have HT := Lib.hid hT
  clear hT
  have hl : k.cs.length = 17 := rfl
  have e8 : ∀ h : 8 < k.cs.length, k.cs[8] = .int .i64 k.half := fun _ => rfl
  have e9 : ∀ h : 9 < k.cs.length, k.cs[9] = .int .i64 k.step := fun _ => rfl
  have e10 : ∀ h : 10 < k.cs.length, k.cs[10] = .int .i64 k.cuts := fun _ => rfl
  have e11 : ∀ h : 11 < k.cs.length, k.cs[11] = .int .i64 k.elo := fun _ => rfl
  have e12 : ∀ h : 12 < k.cs.length, k.cs[12] = .int .i64 k.ehi := fun _ => rfl
  have e13 : ∀ h : 13 < k.cs.length, k.cs[13] = .int .i64 k.prism := fun _ => rfl
  have e14 : ∀ h : 14 < k.cs.length, k.cs[14] = .int .i64 k.squeeze := fun _ => rfl
  have e15 : ∀ h : 15 < k.cs.length, k.cs[15] = .int .i64 k.front := fun _ => rfl
  have e16 : ∀ h : 16 < k.cs.length, k.cs[16] = .int .i64 k.deep := fun _ => rfl
  go_enter Tryz.func24, Tryz.ntmps24
  go_wp2_with (first | (go_at_call 66; refine (r3in_is (v := false) (by simpa using K0.out) _).mono ?_; rintro e w1 ⟨rfl, hb1⟩; have g1 := hb1; obtain ⟨hc1, hf1, hz1⟩ := bcell g1))
  exact bodyPost_ret (v := .bool false) (by simp [results, Tryz.results24, go_sem]) rfl ⟨rfl, Gr.tr (Gr.alloc _ _) g1⟩
theorem rcard_1 (k : Cd) (w : World) (hT : TsA k.p.l (.slice k.sp k.p.l.length k.cap) w) (h0 : k.vd 0 = true) (h1 : k.vd 1 = false) :
    Calls Tryz.prog 24 #[.agg k.cs.toArray] w fun e w' => e = .returned (.bool false) ∧ Below w.heap.size w w' := by
  have K0 := Lib.hid (show (decide (1 ≤ k.half) && decide (k.half ≤ 4000)) = true from h0)
  have K1 := Lib.hid (show (decide (1 ≤ k.step) && decide (k.step ≤ 100)) = false from h1)
  clear h0 h1
  have HT := Lib.hid hT
  clear hT
  have hl : k.cs.length = 17 := rfl
  have e8 : ∀ h : 8 < k.cs.length, k.cs[8] = .int .i64 k.half := fun _ => rfl
  have e9 : ∀ h : 9 < k.cs.length, k.cs[9] = .int .i64 k.step := fun _ => rfl
  have e10 : ∀ h : 10 < k.cs.length, k.cs[10] = .int .i64 k.cuts := fun _ => rfl
  have e11 : ∀ h : 11 < k.cs.length, k.cs[11] = .int .i64 k.elo := fun _ => rfl
  have e12 : ∀ h : 12 < k.cs.length, k.cs[12] = .int .i64 k.ehi := fun _ => rfl
  have e13 : ∀ h : 13 < k.cs.length, k.cs[13] = .int .i64 k.prism := fun _ => rfl
  have e14 : ∀ h : 14 < k.cs.length, k.cs[14] = .int .i64 k.squeeze := fun _ => rfl
  have e15 : ∀ h : 15 < k.cs.length, k.cs[15] = .int .i64 k.front := fun _ => rfl
  have e16 : ∀ h : 16 < k.cs.length, k.cs[16] = .int .i64 k.deep := fun _ => rfl
  go_enter Tryz.func24, Tryz.ntmps24
  go_wp2_with (first | (go_at_call 66; refine (r3in_is (v := true) (by simpa using K0.out) _).mono ?_; rintro e w1 ⟨rfl, hb1⟩; have g1 := hb1; obtain ⟨hc1, hf1, hz1⟩ := bcell g1) | (go_at_call 66; refine (r3in_is (v := false) (by simpa using K1.out) _).mono ?_; rintro e w2 ⟨rfl, hb2⟩; have g2 := Gr.tr g1 hb2; obtain ⟨hc2, hf2, hz2⟩ := bcell g2))
  exact bodyPost_ret (v := .bool false) (by simp [results, Tryz.results24, go_sem]) rfl ⟨rfl, Gr.tr (Gr.alloc _ _) g2⟩
theorem rcard_2 (k : Cd) (w : World) (hT : TsA k.p.l (.slice k.sp k.p.l.length k.cap) w) (h0 : k.vd 0 = true) (h1 : k.vd 1 = true) (h2 : k.vd 2 = false) :
    Calls Tryz.prog 24 #[.agg k.cs.toArray] w fun e w' => e = .returned (.bool false) ∧ Below w.heap.size w w' := by
  have K0 := Lib.hid (show (decide (1 ≤ k.half) && decide (k.half ≤ 4000)) = true from h0)
  have K1 := Lib.hid (show (decide (1 ≤ k.step) && decide (k.step ≤ 100)) = true from h1)
  have K2 := Lib.hid (show (decide (0 ≤ k.cuts) && decide (k.cuts ≤ 40)) = false from h2)
  clear h0 h1 h2
  have HT := Lib.hid hT
  clear hT
  have hl : k.cs.length = 17 := rfl
  have e8 : ∀ h : 8 < k.cs.length, k.cs[8] = .int .i64 k.half := fun _ => rfl
  have e9 : ∀ h : 9 < k.cs.length, k.cs[9] = .int .i64 k.step := fun _ => rfl
  have e10 : ∀ h : 10 < k.cs.length, k.cs[10] = .int .i64 k.cuts := fun _ => rfl
  have e11 : ∀ h : 11 < k.cs.length, k.cs[11] = .int .i64 k.elo := fun _ => rfl
  have e12 : ∀ h : 12 < k.cs.length, k.cs[12] = .int .i64 k.ehi := fun _ => rfl
  have e13 : ∀ h : 13 < k.cs.length, k.cs[13] = .int .i64 k.prism := fun _ => rfl
  have e14 : ∀ h : 14 < k.cs.length, k.cs[14] = .int .i64 k.squeeze := fun _ => rfl
  have e15 : ∀ h : 15 < k.cs.length, k.cs[15] = .int .i64 k.front := fun _ => rfl
  have e16 : ∀ h : 16 < k.cs.length, k.cs[16] = .int .i64 k.deep := fun _ => rfl
  go_enter Tryz.func24, Tryz.ntmps24
  go_wp2_with (first | (go_at_call 66; refine (r3in_is (v := true) (by simpa using K0.out) _).mono ?_; rintro e w1 ⟨rfl, hb1⟩; have g1 := hb1; obtain ⟨hc1, hf1, hz1⟩ := bcell g1) | (go_at_call 66; refine (r3in_is (v := true) (by simpa using K1.out) _).mono ?_; rintro e w2 ⟨rfl, hb2⟩; have g2 := Gr.tr g1 hb2; obtain ⟨hc2, hf2, hz2⟩ := bcell g2) | (go_at_call 66; refine (r3in_is (v := false) (by simpa using K2.out) _).mono ?_; rintro e w3 ⟨rfl, hb3⟩; have g3 := Gr.tr g2 hb3; obtain ⟨hc3, hf3, hz3⟩ := bcell g3))
  exact bodyPost_ret (v := .bool false) (by simp [results, Tryz.results24, go_sem]) rfl ⟨rfl, Gr.tr (Gr.alloc _ _) g3⟩
theorem rcard_3 (k : Cd) (w : World) (hT : TsA k.p.l (.slice k.sp k.p.l.length k.cap) w) (h0 : k.vd 0 = true) (h1 : k.vd 1 = true) (h2 : k.vd 2 = true) (h3 : k.vd 3 = false) :
    Calls Tryz.prog 24 #[.agg k.cs.toArray] w fun e w' => e = .returned (.bool false) ∧ Below w.heap.size w w' := by
  have K0 := Lib.hid (show (decide (1 ≤ k.half) && decide (k.half ≤ 4000)) = true from h0)
  have K1 := Lib.hid (show (decide (1 ≤ k.step) && decide (k.step ≤ 100)) = true from h1)
  have K2 := Lib.hid (show (decide (0 ≤ k.cuts) && decide (k.cuts ≤ 40)) = true from h2)
  have d3 : decide (1 ≤ k.elo) = false := h3
  clear h0 h1 h2 h3
  have HT := Lib.hid hT
  clear hT
  have hl : k.cs.length = 17 := rfl
  have e8 : ∀ h : 8 < k.cs.length, k.cs[8] = .int .i64 k.half := fun _ => rfl
  have e9 : ∀ h : 9 < k.cs.length, k.cs[9] = .int .i64 k.step := fun _ => rfl
  have e10 : ∀ h : 10 < k.cs.length, k.cs[10] = .int .i64 k.cuts := fun _ => rfl
  have e11 : ∀ h : 11 < k.cs.length, k.cs[11] = .int .i64 k.elo := fun _ => rfl
  have e12 : ∀ h : 12 < k.cs.length, k.cs[12] = .int .i64 k.ehi := fun _ => rfl
  have e13 : ∀ h : 13 < k.cs.length, k.cs[13] = .int .i64 k.prism := fun _ => rfl
  have e14 : ∀ h : 14 < k.cs.length, k.cs[14] = .int .i64 k.squeeze := fun _ => rfl
  have e15 : ∀ h : 15 < k.cs.length, k.cs[15] = .int .i64 k.front := fun _ => rfl
  have e16 : ∀ h : 16 < k.cs.length, k.cs[16] = .int .i64 k.deep := fun _ => rfl
  go_enter Tryz.func24, Tryz.ntmps24
  go_wp2_with (first | (go_at_call 66; refine (r3in_is (v := true) (by simpa using K0.out) _).mono ?_; rintro e w1 ⟨rfl, hb1⟩; have g1 := hb1; obtain ⟨hc1, hf1, hz1⟩ := bcell g1) | (go_at_call 66; refine (r3in_is (v := true) (by simpa using K1.out) _).mono ?_; rintro e w2 ⟨rfl, hb2⟩; have g2 := Gr.tr g1 hb2; obtain ⟨hc2, hf2, hz2⟩ := bcell g2) | (go_at_call 66; refine (r3in_is (v := true) (by simpa using K2.out) _).mono ?_; rintro e w3 ⟨rfl, hb3⟩; have g3 := Gr.tr g2 hb3; obtain ⟨hc3, hf3, hz3⟩ := bcell g3))
  exact bodyPost_ret (v := .bool false) (by simp [results, Tryz.results24, go_sem]) rfl ⟨rfl, Gr.tr (Gr.alloc _ _) g3⟩
theorem rcard_4 (k : Cd) (w : World) (hT : TsA k.p.l (.slice k.sp k.p.l.length k.cap) w) (h0 : k.vd 0 = true) (h1 : k.vd 1 = true) (h2 : k.vd 2 = true) (h3 : k.vd 3 = true) (h4 : k.vd 4 = false) :
    Calls Tryz.prog 24 #[.agg k.cs.toArray] w fun e w' => e = .returned (.bool false) ∧ Below w.heap.size w w' := by
  have K0 := Lib.hid (show (decide (1 ≤ k.half) && decide (k.half ≤ 4000)) = true from h0)
  have K1 := Lib.hid (show (decide (1 ≤ k.step) && decide (k.step ≤ 100)) = true from h1)
  have K2 := Lib.hid (show (decide (0 ≤ k.cuts) && decide (k.cuts ≤ 40)) = true from h2)
  have d3 : decide (1 ≤ k.elo) = true := h3
  have d4 : decide (k.elo ≤ k.ehi) = false := h4
  clear h0 h1 h2 h3 h4
  have HT := Lib.hid hT
  clear hT
  have hl : k.cs.length = 17 := rfl
  have e8 : ∀ h : 8 < k.cs.length, k.cs[8] = .int .i64 k.half := fun _ => rfl
  have e9 : ∀ h : 9 < k.cs.length, k.cs[9] = .int .i64 k.step := fun _ => rfl
  have e10 : ∀ h : 10 < k.cs.length, k.cs[10] = .int .i64 k.cuts := fun _ => rfl
  have e11 : ∀ h : 11 < k.cs.length, k.cs[11] = .int .i64 k.elo := fun _ => rfl
  have e12 : ∀ h : 12 < k.cs.length, k.cs[12] = .int .i64 k.ehi := fun _ => rfl
  have e13 : ∀ h : 13 < k.cs.length, k.cs[13] = .int .i64 k.prism := fun _ => rfl
  have e14 : ∀ h : 14 < k.cs.length, k.cs[14] = .int .i64 k.squeeze := fun _ => rfl
  have e15 : ∀ h : 15 < k.cs.length, k.cs[15] = .int .i64 k.front := fun _ => rfl
  have e16 : ∀ h : 16 < k.cs.length, k.cs[16] = .int .i64 k.deep := fun _ => rfl
  go_enter Tryz.func24, Tryz.ntmps24
  go_wp2_with (first | (go_at_call 66; refine (r3in_is (v := true) (by simpa using K0.out) _).mono ?_; rintro e w1 ⟨rfl, hb1⟩; have g1 := hb1; obtain ⟨hc1, hf1, hz1⟩ := bcell g1) | (go_at_call 66; refine (r3in_is (v := true) (by simpa using K1.out) _).mono ?_; rintro e w2 ⟨rfl, hb2⟩; have g2 := Gr.tr g1 hb2; obtain ⟨hc2, hf2, hz2⟩ := bcell g2) | (go_at_call 66; refine (r3in_is (v := true) (by simpa using K2.out) _).mono ?_; rintro e w3 ⟨rfl, hb3⟩; have g3 := Gr.tr g2 hb3; obtain ⟨hc3, hf3, hz3⟩ := bcell g3))
  exact bodyPost_ret (v := .bool false) (by simp [results, Tryz.results24, go_sem]) rfl ⟨rfl, Gr.tr (Gr.alloc _ _) g3⟩
theorem rcard_5 (k : Cd) (w : World) (hT : TsA k.p.l (.slice k.sp k.p.l.length k.cap) w) (h0 : k.vd 0 = true) (h1 : k.vd 1 = true) (h2 : k.vd 2 = true) (h3 : k.vd 3 = true) (h4 : k.vd 4 = true) (h5 : k.vd 5 = false) :
    Calls Tryz.prog 24 #[.agg k.cs.toArray] w fun e w' => e = .returned (.bool false) ∧ Below w.heap.size w w' := by
  have K0 := Lib.hid (show (decide (1 ≤ k.half) && decide (k.half ≤ 4000)) = true from h0)
  have K1 := Lib.hid (show (decide (1 ≤ k.step) && decide (k.step ≤ 100)) = true from h1)
  have K2 := Lib.hid (show (decide (0 ≤ k.cuts) && decide (k.cuts ≤ 40)) = true from h2)
  have d3 : decide (1 ≤ k.elo) = true := h3
  have d4 : decide (k.elo ≤ k.ehi) = true := h4
  have d5 : decide (k.ehi ≤ 10000) = false := h5
  clear h0 h1 h2 h3 h4 h5
  have HT := Lib.hid hT
  clear hT
  have hl : k.cs.length = 17 := rfl
  have e8 : ∀ h : 8 < k.cs.length, k.cs[8] = .int .i64 k.half := fun _ => rfl
  have e9 : ∀ h : 9 < k.cs.length, k.cs[9] = .int .i64 k.step := fun _ => rfl
  have e10 : ∀ h : 10 < k.cs.length, k.cs[10] = .int .i64 k.cuts := fun _ => rfl
  have e11 : ∀ h : 11 < k.cs.length, k.cs[11] = .int .i64 k.elo := fun _ => rfl
  have e12 : ∀ h : 12 < k.cs.length, k.cs[12] = .int .i64 k.ehi := fun _ => rfl
  have e13 : ∀ h : 13 < k.cs.length, k.cs[13] = .int .i64 k.prism := fun _ => rfl
  have e14 : ∀ h : 14 < k.cs.length, k.cs[14] = .int .i64 k.squeeze := fun _ => rfl
  have e15 : ∀ h : 15 < k.cs.length, k.cs[15] = .int .i64 k.front := fun _ => rfl
  have e16 : ∀ h : 16 < k.cs.length, k.cs[16] = .int .i64 k.deep := fun _ => rfl
  go_enter Tryz.func24, Tryz.ntmps24
  go_wp2_with (first | (go_at_call 66; refine (r3in_is (v := true) (by simpa using K0.out) _).mono ?_; rintro e w1 ⟨rfl, hb1⟩; have g1 := hb1; obtain ⟨hc1, hf1, hz1⟩ := bcell g1) | (go_at_call 66; refine (r3in_is (v := true) (by simpa using K1.out) _).mono ?_; rintro e w2 ⟨rfl, hb2⟩; have g2 := Gr.tr g1 hb2; obtain ⟨hc2, hf2, hz2⟩ := bcell g2) | (go_at_call 66; refine (r3in_is (v := true) (by simpa using K2.out) _).mono ?_; rintro e w3 ⟨rfl, hb3⟩; have g3 := Gr.tr g2 hb3; obtain ⟨hc3, hf3, hz3⟩ := bcell g3))
  exact bodyPost_ret (v := .bool false) (by simp [results, Tryz.results24, go_sem]) rfl ⟨rfl, Gr.tr (Gr.alloc _ _) g3⟩
theorem rcard_6 (k : Cd) (w : World) (hT : TsA k.p.l (.slice k.sp k.p.l.length k.cap) w) (h0 : k.vd 0 = true) (h1 : k.vd 1 = true) (h2 : k.vd 2 = true) (h3 : k.vd 3 = true) (h4 : k.vd 4 = true) (h5 : k.vd 5 = true) (h6 : k.vd 6 = false) :
    Calls Tryz.prog 24 #[.agg k.cs.toArray] w fun e w' => e = .returned (.bool false) ∧ Below w.heap.size w w' := by
  have K0 := Lib.hid (show (decide (1 ≤ k.half) && decide (k.half ≤ 4000)) = true from h0)
  have K1 := Lib.hid (show (decide (1 ≤ k.step) && decide (k.step ≤ 100)) = true from h1)
  have K2 := Lib.hid (show (decide (0 ≤ k.cuts) && decide (k.cuts ≤ 40)) = true from h2)
  have d3 : decide (1 ≤ k.elo) = true := h3
  have d4 : decide (k.elo ≤ k.ehi) = true := h4
  have d5 : decide (k.ehi ≤ 10000) = true := h5
  have K6 := Lib.hid (show (decide (0 ≤ k.prism) && decide (k.prism ≤ 10000)) = false from h6)
  clear h0 h1 h2 h3 h4 h5 h6
  have HT := Lib.hid hT
  clear hT
  have hl : k.cs.length = 17 := rfl
  have e8 : ∀ h : 8 < k.cs.length, k.cs[8] = .int .i64 k.half := fun _ => rfl
  have e9 : ∀ h : 9 < k.cs.length, k.cs[9] = .int .i64 k.step := fun _ => rfl
  have e10 : ∀ h : 10 < k.cs.length, k.cs[10] = .int .i64 k.cuts := fun _ => rfl
  have e11 : ∀ h : 11 < k.cs.length, k.cs[11] = .int .i64 k.elo := fun _ => rfl
  have e12 : ∀ h : 12 < k.cs.length, k.cs[12] = .int .i64 k.ehi := fun _ => rfl
  have e13 : ∀ h : 13 < k.cs.length, k.cs[13] = .int .i64 k.prism := fun _ => rfl
  have e14 : ∀ h : 14 < k.cs.length, k.cs[14] = .int .i64 k.squeeze := fun _ => rfl
  have e15 : ∀ h : 15 < k.cs.length, k.cs[15] = .int .i64 k.front := fun _ => rfl
  have e16 : ∀ h : 16 < k.cs.length, k.cs[16] = .int .i64 k.deep := fun _ => rfl
  go_enter Tryz.func24, Tryz.ntmps24
  go_wp2_with (first | (go_at_call 66; refine (r3in_is (v := true) (by simpa using K0.out) _).mono ?_; rintro e w1 ⟨rfl, hb1⟩; have g1 := hb1; obtain ⟨hc1, hf1, hz1⟩ := bcell g1) | (go_at_call 66; refine (r3in_is (v := true) (by simpa using K1.out) _).mono ?_; rintro e w2 ⟨rfl, hb2⟩; have g2 := Gr.tr g1 hb2; obtain ⟨hc2, hf2, hz2⟩ := bcell g2) | (go_at_call 66; refine (r3in_is (v := true) (by simpa using K2.out) _).mono ?_; rintro e w3 ⟨rfl, hb3⟩; have g3 := Gr.tr g2 hb3; obtain ⟨hc3, hf3, hz3⟩ := bcell g3) | (go_at_call 66; refine (r3in_is (v := false) (by simpa using K6.out) _).mono ?_; rintro e w4 ⟨rfl, hb4⟩; have g4 := Gr.tr g3 hb4; obtain ⟨hc4, hf4, hz4⟩ := bcell g4))
  exact bodyPost_ret (v := .bool false) (by simp [results, Tryz.results24, go_sem]) rfl ⟨rfl, Gr.tr (Gr.alloc _ _) g4⟩
theorem rcard_7 (k : Cd) (w : World) (hT : TsA k.p.l (.slice k.sp k.p.l.length k.cap) w) (h0 : k.vd 0 = true) (h1 : k.vd 1 = true) (h2 : k.vd 2 = true) (h3 : k.vd 3 = true) (h4 : k.vd 4 = true) (h5 : k.vd 5 = true) (h6 : k.vd 6 = true) (h7 : k.vd 7 = false) :
    Calls Tryz.prog 24 #[.agg k.cs.toArray] w fun e w' => e = .returned (.bool false) ∧ Below w.heap.size w w' := by
  have K0 := Lib.hid (show (decide (1 ≤ k.half) && decide (k.half ≤ 4000)) = true from h0)
  have K1 := Lib.hid (show (decide (1 ≤ k.step) && decide (k.step ≤ 100)) = true from h1)
  have K2 := Lib.hid (show (decide (0 ≤ k.cuts) && decide (k.cuts ≤ 40)) = true from h2)
  have d3 : decide (1 ≤ k.elo) = true := h3
  have d4 : decide (k.elo ≤ k.ehi) = true := h4
  have d5 : decide (k.ehi ≤ 10000) = true := h5
  have K6 := Lib.hid (show (decide (0 ≤ k.prism) && decide (k.prism ≤ 10000)) = true from h6)
  have K7 := Lib.hid (show (decide (0 ≤ k.squeeze) && decide (k.squeeze ≤ 10000)) = false from h7)
  clear h0 h1 h2 h3 h4 h5 h6 h7
  have HT := Lib.hid hT
  clear hT
  have hl : k.cs.length = 17 := rfl
  have e8 : ∀ h : 8 < k.cs.length, k.cs[8] = .int .i64 k.half := fun _ => rfl
  have e9 : ∀ h : 9 < k.cs.length, k.cs[9] = .int .i64 k.step := fun _ => rfl
  have e10 : ∀ h : 10 < k.cs.length, k.cs[10] = .int .i64 k.cuts := fun _ => rfl
  have e11 : ∀ h : 11 < k.cs.length, k.cs[11] = .int .i64 k.elo := fun _ => rfl
  have e12 : ∀ h : 12 < k.cs.length, k.cs[12] = .int .i64 k.ehi := fun _ => rfl
  have e13 : ∀ h : 13 < k.cs.length, k.cs[13] = .int .i64 k.prism := fun _ => rfl
  have e14 : ∀ h : 14 < k.cs.length, k.cs[14] = .int .i64 k.squeeze := fun _ => rfl
  have e15 : ∀ h : 15 < k.cs.length, k.cs[15] = .int .i64 k.front := fun _ => rfl
  have e16 : ∀ h : 16 < k.cs.length, k.cs[16] = .int .i64 k.deep := fun _ => rfl
  go_enter Tryz.func24, Tryz.ntmps24
  go_wp2_with (first | (go_at_call 66; refine (r3in_is (v := true) (by simpa using K0.out) _).mono ?_; rintro e w1 ⟨rfl, hb1⟩; have g1 := hb1; obtain ⟨hc1, hf1, hz1⟩ := bcell g1) | (go_at_call 66; refine (r3in_is (v := true) (by simpa using K1.out) _).mono ?_; rintro e w2 ⟨rfl, hb2⟩; have g2 := Gr.tr g1 hb2; obtain ⟨hc2, hf2, hz2⟩ := bcell g2) | (go_at_call 66; refine (r3in_is (v := true) (by simpa using K2.out) _).mono ?_; rintro e w3 ⟨rfl, hb3⟩; have g3 := Gr.tr g2 hb3; obtain ⟨hc3, hf3, hz3⟩ := bcell g3) | (go_at_call 66; refine (r3in_is (v := true) (by simpa using K6.out) _).mono ?_; rintro e w4 ⟨rfl, hb4⟩; have g4 := Gr.tr g3 hb4; obtain ⟨hc4, hf4, hz4⟩ := bcell g4) | (go_at_call 66; refine (r3in_is (v := false) (by simpa using K7.out) _).mono ?_; rintro e w5 ⟨rfl, hb5⟩; have g5 := Gr.tr g4 hb5; obtain ⟨hc5, hf5, hz5⟩ := bcell g5))
  exact bodyPost_ret (v := .bool false) (by simp [results, Tryz.results24, go_sem]) rfl ⟨rfl, Gr.tr (Gr.alloc _ _) g5⟩
theorem rcard_8 (k : Cd) (w : World) (hT : TsA k.p.l (.slice k.sp k.p.l.length k.cap) w) (h0 : k.vd 0 = true) (h1 : k.vd 1 = true) (h2 : k.vd 2 = true) (h3 : k.vd 3 = true) (h4 : k.vd 4 = true) (h5 : k.vd 5 = true) (h6 : k.vd 6 = true) (h7 : k.vd 7 = true) (h8 : k.vd 8 = false) :
    Calls Tryz.prog 24 #[.agg k.cs.toArray] w fun e w' => e = .returned (.bool false) ∧ Below w.heap.size w w' := by
  have K0 := Lib.hid (show (decide (1 ≤ k.half) && decide (k.half ≤ 4000)) = true from h0)
  have K1 := Lib.hid (show (decide (1 ≤ k.step) && decide (k.step ≤ 100)) = true from h1)
  have K2 := Lib.hid (show (decide (0 ≤ k.cuts) && decide (k.cuts ≤ 40)) = true from h2)
  have d3 : decide (1 ≤ k.elo) = true := h3
  have d4 : decide (k.elo ≤ k.ehi) = true := h4
  have d5 : decide (k.ehi ≤ 10000) = true := h5
  have K6 := Lib.hid (show (decide (0 ≤ k.prism) && decide (k.prism ≤ 10000)) = true from h6)
  have K7 := Lib.hid (show (decide (0 ≤ k.squeeze) && decide (k.squeeze ≤ 10000)) = true from h7)
  have K8 := Lib.hid (show (decide (0 ≤ k.front) && decide (k.front ≤ 10000)) = false from h8)
  clear h0 h1 h2 h3 h4 h5 h6 h7 h8
  have HT := Lib.hid hT
  clear hT
  have hl : k.cs.length = 17 := rfl
  have e8 : ∀ h : 8 < k.cs.length, k.cs[8] = .int .i64 k.half := fun _ => rfl
  have e9 : ∀ h : 9 < k.cs.length, k.cs[9] = .int .i64 k.step := fun _ => rfl
  have e10 : ∀ h : 10 < k.cs.length, k.cs[10] = .int .i64 k.cuts := fun _ => rfl
  have e11 : ∀ h : 11 < k.cs.length, k.cs[11] = .int .i64 k.elo := fun _ => rfl
  have e12 : ∀ h : 12 < k.cs.length, k.cs[12] = .int .i64 k.ehi := fun _ => rfl
  have e13 : ∀ h : 13 < k.cs.length, k.cs[13] = .int .i64 k.prism := fun _ => rfl
  have e14 : ∀ h : 14 < k.cs.length, k.cs[14] = .int .i64 k.squeeze := fun _ => rfl
  have e15 : ∀ h : 15 < k.cs.length, k.cs[15] = .int .i64 k.front := fun _ => rfl
  have e16 : ∀ h : 16 < k.cs.length, k.cs[16] = .int .i64 k.deep := fun _ => rfl
  go_enter Tryz.func24, Tryz.ntmps24
  go_wp2_with (first | (go_at_call 66; refine (r3in_is (v := true) (by simpa using K0.out) _).mono ?_; rintro e w1 ⟨rfl, hb1⟩; have g1 := hb1; obtain ⟨hc1, hf1, hz1⟩ := bcell g1) | (go_at_call 66; refine (r3in_is (v := true) (by simpa using K1.out) _).mono ?_; rintro e w2 ⟨rfl, hb2⟩; have g2 := Gr.tr g1 hb2; obtain ⟨hc2, hf2, hz2⟩ := bcell g2) | (go_at_call 66; refine (r3in_is (v := true) (by simpa using K2.out) _).mono ?_; rintro e w3 ⟨rfl, hb3⟩; have g3 := Gr.tr g2 hb3; obtain ⟨hc3, hf3, hz3⟩ := bcell g3) | (go_at_call 66; refine (r3in_is (v := true) (by simpa using K6.out) _).mono ?_; rintro e w4 ⟨rfl, hb4⟩; have g4 := Gr.tr g3 hb4; obtain ⟨hc4, hf4, hz4⟩ := bcell g4) | (go_at_call 66; refine (r3in_is (v := true) (by simpa using K7.out) _).mono ?_; rintro e w5 ⟨rfl, hb5⟩; have g5 := Gr.tr g4 hb5; obtain ⟨hc5, hf5, hz5⟩ := bcell g5) | (go_at_call 66; refine (r3in_is (v := false) (by simpa using K8.out) _).mono ?_; rintro e w6 ⟨rfl, hb6⟩; have g6 := Gr.tr g5 hb6; obtain ⟨hc6, hf6, hz6⟩ := bcell g6))
  exact bodyPost_ret (v := .bool false) (by simp [results, Tryz.results24, go_sem]) rfl ⟨rfl, Gr.tr (Gr.alloc _ _) g6⟩
theorem rcard_9 (k : Cd) (w : World) (hT : TsA k.p.l (.slice k.sp k.p.l.length k.cap) w) (h0 : k.vd 0 = true) (h1 : k.vd 1 = true) (h2 : k.vd 2 = true) (h3 : k.vd 3 = true) (h4 : k.vd 4 = true) (h5 : k.vd 5 = true) (h6 : k.vd 6 = true) (h7 : k.vd 7 = true) (h8 : k.vd 8 = true) (h9 : k.vd 9 = false) :
    Calls Tryz.prog 24 #[.agg k.cs.toArray] w fun e w' => e = .returned (.bool false) ∧ Below w.heap.size w w' := by
  have K0 := Lib.hid (show (decide (1 ≤ k.half) && decide (k.half ≤ 4000)) = true from h0)
  have K1 := Lib.hid (show (decide (1 ≤ k.step) && decide (k.step ≤ 100)) = true from h1)
  have K2 := Lib.hid (show (decide (0 ≤ k.cuts) && decide (k.cuts ≤ 40)) = true from h2)
  have d3 : decide (1 ≤ k.elo) = true := h3
  have d4 : decide (k.elo ≤ k.ehi) = true := h4
  have d5 : decide (k.ehi ≤ 10000) = true := h5
  have K6 := Lib.hid (show (decide (0 ≤ k.prism) && decide (k.prism ≤ 10000)) = true from h6)
  have K7 := Lib.hid (show (decide (0 ≤ k.squeeze) && decide (k.squeeze ≤ 10000)) = true from h7)
  have K8 := Lib.hid (show (decide (0 ≤ k.front) && decide (k.front ≤ 10000)) = true from h8)
  have K9 := Lib.hid (show (decide (0 ≤ k.deep) && decide (k.deep ≤ 10000)) = false from h9)
  clear h0 h1 h2 h3 h4 h5 h6 h7 h8 h9
  have HT := Lib.hid hT
  clear hT
  have hl : k.cs.length = 17 := rfl
  have e8 : ∀ h : 8 < k.cs.length, k.cs[8] = .int .i64 k.half := fun _ => rfl
  have e9 : ∀ h : 9 < k.cs.length, k.cs[9] = .int .i64 k.step := fun _ => rfl
  have e10 : ∀ h : 10 < k.cs.length, k.cs[10] = .int .i64 k.cuts := fun _ => rfl
  have e11 : ∀ h : 11 < k.cs.length, k.cs[11] = .int .i64 k.elo := fun _ => rfl
  have e12 : ∀ h : 12 < k.cs.length, k.cs[12] = .int .i64 k.ehi := fun _ => rfl
  have e13 : ∀ h : 13 < k.cs.length, k.cs[13] = .int .i64 k.prism := fun _ => rfl
  have e14 : ∀ h : 14 < k.cs.length, k.cs[14] = .int .i64 k.squeeze := fun _ => rfl
  have e15 : ∀ h : 15 < k.cs.length, k.cs[15] = .int .i64 k.front := fun _ => rfl
  have e16 : ∀ h : 16 < k.cs.length, k.cs[16] = .int .i64 k.deep := fun _ => rfl
  go_enter Tryz.func24, Tryz.ntmps24
  go_wp2_with (first | (go_at_call 66; refine (r3in_is (v := true) (by simpa using K0.out) _).mono ?_; rintro e w1 ⟨rfl, hb1⟩; have g1 := hb1; obtain ⟨hc1, hf1, hz1⟩ := bcell g1) | (go_at_call 66; refine (r3in_is (v := true) (by simpa using K1.out) _).mono ?_; rintro e w2 ⟨rfl, hb2⟩; have g2 := Gr.tr g1 hb2; obtain ⟨hc2, hf2, hz2⟩ := bcell g2) | (go_at_call 66; refine (r3in_is (v := true) (by simpa using K2.out) _).mono ?_; rintro e w3 ⟨rfl, hb3⟩; have g3 := Gr.tr g2 hb3; obtain ⟨hc3, hf3, hz3⟩ := bcell g3) | (go_at_call 66; refine (r3in_is (v := true) (by simpa using K6.out) _).mono ?_; rintro e w4 ⟨rfl, hb4⟩; have g4 := Gr.tr g3 hb4; obtain ⟨hc4, hf4, hz4⟩ := bcell g4) | (go_at_call 66; refine (r3in_is (v := true) (by simpa using K7.out) _).mono ?_; rintro e w5 ⟨rfl, hb5⟩; have g5 := Gr.tr g4 hb5; obtain ⟨hc5, hf5, hz5⟩ := bcell g5) | (go_at_call 66; refine (r3in_is (v := true) (by simpa using K8.out) _).mono ?_; rintro e w6 ⟨rfl, hb6⟩; have g6 := Gr.tr g5 hb6; obtain ⟨hc6, hf6, hz6⟩ := bcell g6) | (go_at_call 66; refine (r3in_is (v := false) (by simpa using K9.out) _).mono ?_; rintro e w7 ⟨rfl, hb7⟩; have g7 := Gr.tr g6 hb7; obtain ⟨hc7, hf7, hz7⟩ := bcell g7))
  exact bodyPost_ret (v := .bool false) (by simp [results, Tryz.results24, go_sem]) rfl ⟨rfl, Gr.tr (Gr.alloc _ _) g7⟩
theorem rcard_10 (k : Cd) (w : World) (hT : TsA k.p.l (.slice k.sp k.p.l.length k.cap) w) (h0 : k.vd 0 = true) (h1 : k.vd 1 = true) (h2 : k.vd 2 = true) (h3 : k.vd 3 = true) (h4 : k.vd 4 = true) (h5 : k.vd 5 = true) (h6 : k.vd 6 = true) (h7 : k.vd 7 = true) (h8 : k.vd 8 = true) (h9 : k.vd 9 = true) :
    Calls Tryz.prog 24 #[.agg k.cs.toArray] w fun e w' => e = .returned (.bool k.p.ok) ∧ Below w.heap.size w w' := by
  have K0 := Lib.hid (show (decide (1 ≤ k.half) && decide (k.half ≤ 4000)) = true from h0)
  have K1 := Lib.hid (show (decide (1 ≤ k.step) && decide (k.step ≤ 100)) = true from h1)
  have K2 := Lib.hid (show (decide (0 ≤ k.cuts) && decide (k.cuts ≤ 40)) = true from h2)
  have d3 : decide (1 ≤ k.elo) = true := h3
  have d4 : decide (k.elo ≤ k.ehi) = true := h4
  have d5 : decide (k.ehi ≤ 10000) = true := h5
  have K6 := Lib.hid (show (decide (0 ≤ k.prism) && decide (k.prism ≤ 10000)) = true from h6)
  have K7 := Lib.hid (show (decide (0 ≤ k.squeeze) && decide (k.squeeze ≤ 10000)) = true from h7)
  have K8 := Lib.hid (show (decide (0 ≤ k.front) && decide (k.front ≤ 10000)) = true from h8)
  have K9 := Lib.hid (show (decide (0 ≤ k.deep) && decide (k.deep ≤ 10000)) = true from h9)
  clear h0 h1 h2 h3 h4 h5 h6 h7 h8 h9
  have HT := Lib.hid hT
  clear hT
  have hl : k.cs.length = 17 := rfl
  have e8 : ∀ h : 8 < k.cs.length, k.cs[8] = .int .i64 k.half := fun _ => rfl
  have e9 : ∀ h : 9 < k.cs.length, k.cs[9] = .int .i64 k.step := fun _ => rfl
  have e10 : ∀ h : 10 < k.cs.length, k.cs[10] = .int .i64 k.cuts := fun _ => rfl
  have e11 : ∀ h : 11 < k.cs.length, k.cs[11] = .int .i64 k.elo := fun _ => rfl
  have e12 : ∀ h : 12 < k.cs.length, k.cs[12] = .int .i64 k.ehi := fun _ => rfl
  have e13 : ∀ h : 13 < k.cs.length, k.cs[13] = .int .i64 k.prism := fun _ => rfl
  have e14 : ∀ h : 14 < k.cs.length, k.cs[14] = .int .i64 k.squeeze := fun _ => rfl
  have e15 : ∀ h : 15 < k.cs.length, k.cs[15] = .int .i64 k.front := fun _ => rfl
  have e16 : ∀ h : 16 < k.cs.length, k.cs[16] = .int .i64 k.deep := fun _ => rfl
  have p0 : ∀ h : 0 < k.cs.length, k.cs[0] = .int .i64 k.p.fl := fun _ => rfl
  have p1 : ∀ h : 1 < k.cs.length, k.cs[1] = .int .i64 k.p.fh := fun _ => rfl
  have p2 : ∀ h : 2 < k.cs.length, k.cs[2] = .int .i64 k.p.bl := fun _ => rfl
  have p3 : ∀ h : 3 < k.cs.length, k.cs[3] = .int .i64 k.p.bh := fun _ => rfl
  have p4 : ∀ h : 4 < k.cs.length, k.cs[4] = .int .i64 k.p.ti := fun _ => rfl
  have p5 : ∀ h : 5 < k.cs.length, k.cs[5] = .int .i64 k.p.ne := fun _ => rfl
  have p6 : ∀ h : 6 < k.cs.length, k.cs[6] = .int .i64 k.p.fa := fun _ => rfl
  have p7 : ∀ h : 7 < k.cs.length, k.cs[7] = .slice k.sp k.p.l.length k.cap := fun _ => rfl
  go_enter Tryz.func24, Tryz.ntmps24
  go_wp2_with (first | (go_at_call 66; refine (r3in_is (v := true) (by simpa using K0.out) _).mono ?_; rintro e w1 ⟨rfl, hb1⟩; have g1 := hb1; obtain ⟨hc1, hf1, hz1⟩ := bcell g1) | (go_at_call 66; refine (r3in_is (v := true) (by simpa using K1.out) _).mono ?_; rintro e w2 ⟨rfl, hb2⟩; have g2 := Gr.tr g1 hb2; obtain ⟨hc2, hf2, hz2⟩ := bcell g2) | (go_at_call 66; refine (r3in_is (v := true) (by simpa using K2.out) _).mono ?_; rintro e w3 ⟨rfl, hb3⟩; have g3 := Gr.tr g2 hb3; obtain ⟨hc3, hf3, hz3⟩ := bcell g3) | (go_at_call 66; refine (r3in_is (v := true) (by simpa using K6.out) _).mono ?_; rintro e w4 ⟨rfl, hb4⟩; have g4 := Gr.tr g3 hb4; obtain ⟨hc4, hf4, hz4⟩ := bcell g4) | (go_at_call 66; refine (r3in_is (v := true) (by simpa using K7.out) _).mono ?_; rintro e w5 ⟨rfl, hb5⟩; have g5 := Gr.tr g4 hb5; obtain ⟨hc5, hf5, hz5⟩ := bcell g5) | (go_at_call 66; refine (r3in_is (v := true) (by simpa using K8.out) _).mono ?_; rintro e w6 ⟨rfl, hb6⟩; have g6 := Gr.tr g5 hb6; obtain ⟨hc6, hf6, hz6⟩ := bcell g6) | (go_at_call 66; refine (r3in_is (v := true) (by simpa using K9.out) _).mono ?_; rintro e w7 ⟨rfl, hb7⟩; have g7 := Gr.tr g6 hb7; obtain ⟨hc7, hf7, hz7⟩ := bcell g7) | (go_at_call 67; refine (rpair_is (p := k.p) rfl (TsA.lasts _ _ _ _ HT.out (Gr.tr (Gr.alloc _ _) g7))).mono ?_; rintro e w8 ⟨rfl, hb8⟩; have g8 := Gr.tr g7 hb8))
  exact bodyPost_ret (v := .bool k.p.ok) (by simp [results, Tryz.results24, go_sem]) rfl ⟨rfl, Gr.tr (Gr.alloc _ _) g8⟩
theorem rcard_any (k : Cd) (w : World) (hT : TsA k.p.l (.slice k.sp k.p.l.length k.cap) w) :
    Calls Tryz.prog 24 #[.agg k.cs.toArray] w fun e w' => e = .returned (.bool (k.okc && k.p.ok)) ∧ Below w.heap.size w w' := by
  cases h0 : k.vd 0 with
  | false =>
    have hk : k.okc = false := by unfold Cd.okc; exact List.all_eq_false.2 ⟨0, by decide, by simp [h0]⟩
    rw [hk]
    exact rcard_0 k w hT h0
  | true =>
    cases h1 : k.vd 1 with
    | false =>
      have hk : k.okc = false := by unfold Cd.okc; exact List.all_eq_false.2 ⟨1, by decide, by simp [h1]⟩
      rw [hk]
      exact rcard_1 k w hT h0 h1
    | true =>
      cases h2 : k.vd 2 with
      | false =>
        have hk : k.okc = false := by unfold Cd.okc; exact List.all_eq_false.2 ⟨2, by decide, by simp [h2]⟩
        rw [hk]
        exact rcard_2 k w hT h0 h1 h2
      | true =>
        cases h3 : k.vd 3 with
        | false =>
          have hk : k.okc = false := by unfold Cd.okc; exact List.all_eq_false.2 ⟨3, by decide, by simp [h3]⟩
          rw [hk]
          exact rcard_3 k w hT h0 h1 h2 h3
        | true =>
          cases h4 : k.vd 4 with
          | false =>
            have hk : k.okc = false := by unfold Cd.okc; exact List.all_eq_false.2 ⟨4, by decide, by simp [h4]⟩
            rw [hk]
            exact rcard_4 k w hT h0 h1 h2 h3 h4
          | true =>
            cases h5 : k.vd 5 with
            | false =>
              have hk : k.okc = false := by unfold Cd.okc; exact List.all_eq_false.2 ⟨5, by decide, by simp [h5]⟩
              rw [hk]
              exact rcard_5 k w hT h0 h1 h2 h3 h4 h5
            | true =>
              cases h6 : k.vd 6 with
              | false =>
                have hk : k.okc = false := by unfold Cd.okc; exact List.all_eq_false.2 ⟨6, by decide, by simp [h6]⟩
                rw [hk]
                exact rcard_6 k w hT h0 h1 h2 h3 h4 h5 h6
              | true =>
                cases h7 : k.vd 7 with
                | false =>
                  have hk : k.okc = false := by unfold Cd.okc; exact List.all_eq_false.2 ⟨7, by decide, by simp [h7]⟩
                  rw [hk]
                  exact rcard_7 k w hT h0 h1 h2 h3 h4 h5 h6 h7
                | true =>
                  cases h8 : k.vd 8 with
                  | false =>
                    have hk : k.okc = false := by unfold Cd.okc; exact List.all_eq_false.2 ⟨8, by decide, by simp [h8]⟩
                    rw [hk]
                    exact rcard_8 k w hT h0 h1 h2 h3 h4 h5 h6 h7 h8
                  | true =>
                    cases h9 : k.vd 9 with
                    | false =>
                      have hk : k.okc = false := by unfold Cd.okc; exact List.all_eq_false.2 ⟨9, by decide, by simp [h9]⟩
                      rw [hk]
                      exact rcard_9 k w hT h0 h1 h2 h3 h4 h5 h6 h7 h8 h9
                    | true =>
                      have hk : k.okc = true := by
                        unfold Cd.okc
                        refine List.all_eq_true.2 fun j hj => ?_
                        have := List.mem_range.1 hj
                        match j, this with
                        | 0, _ => exact h0
                        | 1, _ => exact h1
                        | 2, _ => exact h2
                        | 3, _ => exact h3
                        | 4, _ => exact h4
                        | 5, _ => exact h5
                        | 6, _ => exact h6
                        | 7, _ => exact h7
                        | 8, _ => exact h8
                        | 9, _ => exact h9
                      rw [hk, Bool.true_and]
                      exact rcard_10 k w hT h0 h1 h2 h3 h4 h5 h6 h7 h8 h9
end Go.Proofs.YtcngaohfemdfjaaGreat
