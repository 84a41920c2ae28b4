import Derived.Test.YtofdoadpaedogaaT7
namespace Go.Proofs.Ytofdoadpaedogaa
open Go.RowKit

/-- How far away a stranger is that has one of these shifts with one of these powers. -/
def dist (n f plo phi slo shi : Int) : Int × Int := ovl (n, f) (plo / (shi + 1) + 1, if 0 < slo then phi / slo else f)
theorem dist_pos {n f plo phi slo shi : Int} (h : 0 < slo) : dist n f plo phi slo shi = ovl (n, f) (plo / (shi + 1) + 1, phi / slo) := by unfold dist; rw [if_pos h]
theorem dist_neg {n f plo phi slo shi : Int} (h : ¬ 0 < slo) : dist n f plo phi slo shi = ovl (n, f) (plo / (shi + 1) + 1, f) := by unfold dist; rw [if_neg h]
theorem quo_le {a b m : Int} (h0 : 0 ≤ a) (h1 : a ≤ m) (h2 : 1 ≤ b) : 0 ≤ a / b ∧ a / b ≤ m := by
  constructor
  · exact Int.ediv_nonneg h0 (by omega)
  · have := Int.ediv_le_self b h0; omega
set_option maxHeartbeats 800000 in
theorem farDistances_any (n f plo phi slo shi : Int) (w : World) (a0 : 0 ≤ plo) (a1 : plo ≤ 4398046511104) (b0 : 0 ≤ phi) (b1 : phi ≤ 4398046511104) (c0 : 0 ≤ shi) (c1 : shi ≤ 10000) :
    Calls Try.prog 119 #[.agg #[.int .i64 n, .int .i64 f], .agg #[.int .i64 plo, .int .i64 phi], .agg #[.int .i64 slo, .int .i64 shi]] w fun e w' => e = .returned (.agg #[.int .i64 (dist n f plo phi slo shi).1, .int .i64 (dist n f plo phi slo shi).2]) ∧ Below w.heap.size w w' := by
  obtain ⟨q0, q1⟩ := quo_le (b := shi + 1) a0 a1 (by omega)
  by_cases h : 0 < slo
  · rw [dist_pos h]
    have hd : decide (0 < slo) = true := by simpa using h
    obtain ⟨r0, r1⟩ := quo_le (b := slo) b0 b1 (by omega)
    go_enter Try.func119, Try.ntmps119
    go_wp2_with fail
    refine (span_any _ _ _).mono ?_
    rintro e w1 ⟨rfl, hb1⟩
    obtain ⟨hc1, hf1, hz1⟩ := bcell hb1
    go_wp2_with fail
    refine (span_any _ _ _).mono ?_
    rintro e w2 ⟨rfl, hb2⟩
    have hg2 := Gr.tr hb1 hb2
    clear hc1 hf1 hz1
    obtain ⟨hc2, hf2, hz2⟩ := bcell hg2
    go_wp2_with fail
    refine (overlap_any _ _ _ _ _ (SpansAt.one _ _ _ _)).mono ?_
    rintro e w3 ⟨rfl, hb3⟩
    have hg3 := (Gr.tr hg2 (Gr.alloc _ _)).tr hb3
    clear hc2 hf2 hz2
    obtain ⟨hc3, hf3, hz3⟩ := bcell hg3
    go_wp2
    exact bodyPost_ret (v := .agg #[.int .i64 (ovl (n, f) (plo / (shi + 1) + 1, phi / slo)).1, .int .i64 (ovl (n, f) (plo / (shi + 1) + 1, phi / slo)).2]) (by simp [results, Try.results119, go_sem, hc3]) rfl ⟨rfl, (((bgr (((((Below.refl _ _).alloc (by first | (simp; done) | (simp; omega) | omega) _).alloc (by first | (simp; done) | (simp; omega) | omega) _).alloc (by first | (simp; done) | (simp; omega) | omega) _).alloc (by first | (simp; done) | (simp; omega) | omega) _) (by first | (simp; done) | (simp; omega) | omega) hg3).setCell (by first | (simp; done) | (simp; omega) | omega) _).setCell (by first | (simp; done) | (simp; omega) | omega) _)⟩
  · rw [dist_neg h]
    have hd : decide (0 < slo) = false := by simpa using h
    go_enter Try.func119, Try.ntmps119
    go_wp2_with fail
    refine (span_any _ _ _).mono ?_
    rintro e w1 ⟨rfl, hb1⟩
    obtain ⟨hc1, hf1, hz1⟩ := bcell hb1
    go_wp2_with fail
    refine (span_any _ _ _).mono ?_
    rintro e w2 ⟨rfl, hb2⟩
    have hg2 := Gr.tr hb1 hb2
    clear hc1 hf1 hz1
    obtain ⟨hc2, hf2, hz2⟩ := bcell hg2
    go_wp2_with fail
    refine (overlap_any _ _ _ _ _ (SpansAt.one _ _ _ _)).mono ?_
    rintro e w3 ⟨rfl, hb3⟩
    have hg3 := (Gr.tr hg2 (Gr.alloc _ _)).tr hb3
    clear hc2 hf2 hz2
    obtain ⟨hc3, hf3, hz3⟩ := bcell hg3
    go_wp2
    exact bodyPost_ret (v := .agg #[.int .i64 (ovl (n, f) (plo / (shi + 1) + 1, f)).1, .int .i64 (ovl (n, f) (plo / (shi + 1) + 1, f)).2]) (by simp [results, Try.results119, go_sem, hc3]) rfl ⟨rfl, (((bgr (((((Below.refl _ _).alloc (by first | (simp; done) | (simp; omega) | omega) _).alloc (by first | (simp; done) | (simp; omega) | omega) _).alloc (by first | (simp; done) | (simp; omega) | omega) _).alloc (by first | (simp; done) | (simp; omega) | omega) _) (by first | (simp; done) | (simp; omega) | omega) hg3).setCell (by first | (simp; done) | (simp; omega) | omega) _).setCell (by first | (simp; done) | (simp; omega) | omega) _)⟩
set_option maxHeartbeats 400000 in
theorem before_any (m1 s1 m2 s2 : Int) (w : World) :
    Calls Try.prog 84 #[.agg #[.int .i64 m1, .int .i64 s1], .agg #[.int .i64 m2, .int .i64 s2]] w fun e w' => e = .returned (.bool (if m1 = m2 then decide (s1 < s2) else decide (m1 < m2))) ∧ Below w.heap.size w w' := by
  by_cases h : m1 = m2
  · subst h
    rw [if_pos rfl]
    go_enter Try.func84, Try.ntmps84
    go_wp2
    go_ret
    exact ⟨rfl, ((Below.refl _ _).alloc (Nat.le_refl _) _).alloc (by simp) _⟩
  · rw [if_neg h]
    have hd : (m1 == m2) = false := by simpa using h
    have hd' : (m1 != m2) = true := by simpa using h
    clear h
    go_enter Try.func84, Try.ntmps84
    go_wp2
    go_ret
    exact ⟨rfl, ((Below.refl _ _).alloc (Nat.le_refl _) _).alloc (by simp) _⟩
end Go.Proofs.Ytofdoadpaedogaa
