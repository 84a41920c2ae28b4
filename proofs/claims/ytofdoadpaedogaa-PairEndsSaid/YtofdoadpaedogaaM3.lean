import Derived.Test.YtofdoadpaedogaaM2
namespace Go.Proofs.Ytofdoadpaedogaa
open Go.RowKit

/-- The distances of a thing that can stand still are there, between Near and Far. -/
theorem Pr.dist_in {p : Pr} (h : p.ok = true) (hp : p.pw.1 ≤ p.pw.2) {t : Th} (ht : t ∈ p.l) (h0 : t.z = 0) (hw : (t.see p.ti p.ne p.fa).why p.pw.1 p.pw.2 = 0) :
    p.ne ≤ ((t.see p.ti p.ne p.fa).dists p.pw.1 p.pw.2).1 ∧ ((t.see p.ti p.ne p.fa).dists p.pw.1 p.pw.2).1 ≤ ((t.see p.ti p.ne p.fa).dists p.pw.1 p.pw.2).2 ∧ ((t.see p.ti p.ne p.fa).dists p.pw.1 p.pw.2).2 ≤ p.fa := by
  have hb := p.bounds h
  have hin := p.pw_in h
  have hne := hb.ne0
  have hnf := hb.ne1
  have hlh := Th.lohi h ht
  obtain ⟨-, z1, z2, z3, z4⟩ := Sg.why_zero hw
  have hwit : (t.see p.ti p.ne p.fa).wit = .far p.ne p.fa := Th.far h0
  rw [Sg.dists_far hwit, dist_fst, dist_snd]
  have hpw : (t.see p.ti p.ne p.fa).pw = ((t.see p.ti p.ne p.fa).st.1 * p.ne, ((t.see p.ti p.ne p.fa).st.2 + 1) * p.fa - 1) := by unfold Sg.pw; rw [hwit]; rfl
  rw [hpw] at z3 z4
  have et := (t.see p.ti p.ne p.fa).st_eq
  have u0 : 0 ≤ (t.see p.ti p.ne p.fa).st.1 := by rw [et]; simp only; split <;> omega
  have u1 : (t.see p.ti p.ne p.fa).st.1 ≤ (t.see p.ti p.ne p.fa).st.2 := by rw [et]; simp only; split <;> split <;> omega
  have u2 : (t.see p.ti p.ne p.fa).st.1 ≤ 2000 := by rw [et]; simp only; split <;> omega
  generalize (t.see p.ti p.ne p.fa).st = S at *
  simp only at z3 z4
  have d1 : p.pw.1 / (S.2 + 1) < p.fa := by rw [Int.ediv_lt_iff_lt_mul (by omega), Int.mul_comm]; omega
  by_cases hu : 0 < S.1
  · rw [if_pos hu]
    have d2 : p.ne ≤ p.pw.2 / S.1 := by rw [Int.le_ediv_iff_mul_le hu, Int.mul_comm]; omega
    have d3 : p.ne ≤ p.pw.1 / (S.2 + 1) → p.pw.1 / (S.2 + 1) + 1 ≤ p.pw.2 / S.1 := fun hq => by
      rw [Int.le_ediv_iff_mul_le hu]
      have h1 : p.pw.1 / (S.2 + 1) * (S.2 + 1) ≤ p.pw.1 := Int.ediv_mul_le _ (by omega)
      have h2 : p.pw.1 / (S.2 + 1) * (S.1 + 1) ≤ p.pw.1 / (S.2 + 1) * (S.2 + 1) := Int.mul_le_mul_of_nonneg_left (by omega) (by omega)
      rw [Int.mul_add] at h2
      rw [Int.add_mul]
      omega
    split <;> split <;> omega
  · rw [if_neg hu]
    split <;> split <;> omega
end Go.Proofs.Ytofdoadpaedogaa
