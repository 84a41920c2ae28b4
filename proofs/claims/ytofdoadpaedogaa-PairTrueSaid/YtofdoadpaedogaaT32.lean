import Derived.Test.YtofdoadpaedogaaT31
namespace Go.Proofs.Ytofdoadpaedogaa
open Go.RowKit

theorem div_mono {a b x y : Int} (ha : 0 ≤ a) (hab : a ≤ b) (hx : 0 < x) (hxy : x ≤ y) : a / y ≤ b / x := by
  have h1 : a / y ≤ a / x := by
    rw [Int.le_ediv_iff_mul_le hx]
    have h2 : a / y * x ≤ a / y * y := Int.mul_le_mul_of_nonneg_left hxy (Int.ediv_nonneg ha (by omega))
    have h3 : a / y * y ≤ a := Int.ediv_mul_le _ (by omega)
    omega
  exact Int.le_trans h1 (Int.ediv_le_ediv hx hab)
theorem dist_fst (n f plo phi slo shi : Int) : (dist n f plo phi slo shi).1 = if n < plo / (shi + 1) + 1 then plo / (shi + 1) + 1 else n := rfl
theorem dist_snd (n f plo phi slo shi : Int) : (dist n f plo phi slo shi).2 = if (if 0 < slo then phi / slo else f) < f then (if 0 < slo then phi / slo else f) else f := rfl
/-- Of two things that can stand still the surely nearer one can be no farther away than the other one can. -/
theorem Pr.near_dist {p : Pr} (h : p.ok = true) (hp : p.pw.1 ≤ p.pw.2) {t u : Th} (ht : t ∈ p.l) (hu : u ∈ p.l)
    (hn : (u.see p.ti p.ne p.fa).hi < (t.see p.ti p.ne p.fa).lo) (h1 : (t.see p.ti p.ne p.fa).why p.pw.1 p.pw.2 = 0) (h2 : (u.see p.ti p.ne p.fa).why p.pw.1 p.pw.2 = 0) :
    ((t.see p.ti p.ne p.fa).dists p.pw.1 p.pw.2).1 ≤ ((u.see p.ti p.ne p.fa).dists p.pw.1 p.pw.2).1 ∧ ((t.see p.ti p.ne p.fa).dists p.pw.1 p.pw.2).2 ≤ ((u.see p.ti p.ne p.fa).dists p.pw.1 p.pw.2).2 := by
  have hb := p.bounds h
  have hin := p.pw_in h
  have hlt := Th.lohi h ht
  have hlu := Th.lohi h hu
  have z1 := Sg.why_zero h1
  have z2 := Sg.why_zero h2
  have hne := hb.ne0
  have hnf := hb.ne1
  have et := (t.see p.ti p.ne p.fa).st_eq
  have eu := (u.see p.ti p.ne p.fa).st_eq
  have t1 : 0 < (t.see p.ti p.ne p.fa).st.1 := by rw [et]; simp only; split <;> omega
  have u2 : 0 ≤ (u.see p.ti p.ne p.fa).st.2 := by rw [eu]; simp only; split <;> omega
  have u1 : 0 ≤ (u.see p.ti p.ne p.fa).st.1 := by rw [eu]; simp only; split <;> omega
  have tu : (u.see p.ti p.ne p.fa).st.2 + 1 ≤ (t.see p.ti p.ne p.fa).st.1 := by rw [et, eu]; simp only; split <;> split <;> omega
  have tt : (t.see p.ti p.ne p.fa).st.1 ≤ (t.see p.ti p.ne p.fa).st.2 := by rw [et]; simp only; split <;> split <;> omega
  have uu : (u.see p.ti p.ne p.fa).st.1 ≤ (u.see p.ti p.ne p.fa).st.2 := by rw [eu]; simp only; split <;> split <;> omega
  by_cases hzt : t.z = 0
  · have wt := Th.far (p := p) hzt
    rw [Sg.dists_far wt]
    by_cases hzu : u.z = 0
    · have wu := Th.far (p := p) hzu
      rw [Sg.dists_far wu, dist_fst, dist_fst, dist_snd, dist_snd]
      generalize (t.see p.ti p.ne p.fa).st = S at *
      generalize (u.see p.ti p.ne p.fa).st = U at *
      have k1 : p.pw.1 / (S.2 + 1) ≤ p.pw.1 / (U.2 + 1) := div_mono (by omega) (Int.le_refl _) (by omega) (by omega)
      have k2 : 0 < U.1 → p.pw.2 / S.1 ≤ p.pw.2 / U.1 := fun hu0 => div_mono (by omega) (Int.le_refl _) hu0 (by omega)
      rw [if_pos t1]
      constructor
      · split <;> split <;> omega
      · by_cases hu0 : 0 < U.1
        · have := k2 hu0; rw [if_pos hu0]; split <;> split <;> omega
        · rw [if_neg hu0]; split <;> split <;> omega
    · obtain ⟨wu, -, -, -, m1, m2, m3, m4, m5⟩ := Pr.mark h hp hu hzu
      rw [Sg.dists_mark wu, dist_fst, dist_snd]
      generalize (t.see p.ti p.ne p.fa).st = S at *
      generalize (u.see p.ti p.ne p.fa).st = U at *
      rw [if_pos t1]
      have k1 : p.pw.1 / (S.2 + 1) < u.z := by
        rw [Int.ediv_lt_iff_lt_mul (by omega)]
        have : (U.2 + 1) * u.z ≤ (S.2 + 1) * u.z := Int.mul_le_mul_of_nonneg_right (by omega) (by omega)
        have e : u.z * (S.2 + 1) = (S.2 + 1) * u.z := Int.mul_comm _ _
        omega
      have k2 : p.pw.2 / S.1 < u.z := by
        rw [Int.ediv_lt_iff_lt_mul t1]
        have : (U.2 + 1) * u.z ≤ S.1 * u.z := Int.mul_le_mul_of_nonneg_right tu (by omega)
        have e : u.z * S.1 = S.1 * u.z := Int.mul_comm _ _
        omega
      constructor <;> simp only <;> split <;> omega
  · obtain ⟨wt, -, -, -, n1, n2, n3, n4, n5⟩ := Pr.mark h hp ht hzt
    rw [Sg.dists_mark wt]
    by_cases hzu : u.z = 0
    · have wu := Th.far (p := p) hzu
      rw [Sg.dists_far wu, dist_fst, dist_snd]
      generalize (t.see p.ti p.ne p.fa).st = S at *
      generalize (u.see p.ti p.ne p.fa).st = U at *
      have k1 : t.z ≤ p.pw.1 / (U.2 + 1) := by
        rw [Int.le_ediv_iff_mul_le (by omega)]
        have : (U.2 + 1) * t.z ≤ S.1 * t.z := Int.mul_le_mul_of_nonneg_right tu (by omega)
        have e : t.z * (U.2 + 1) = (U.2 + 1) * t.z := Int.mul_comm _ _
        omega
      have k2 : 0 < U.1 → t.z ≤ p.pw.2 / U.1 := fun hu0 => by
        rw [Int.le_ediv_iff_mul_le hu0]
        have : U.1 * t.z ≤ S.1 * t.z := Int.mul_le_mul_of_nonneg_right (by omega) (by omega)
        have e : t.z * U.1 = U.1 * t.z := Int.mul_comm _ _
        omega
      constructor
      · simp only; split <;> omega
      · by_cases hu0 : 0 < U.1
        · have := k2 hu0; rw [if_pos hu0]; simp only; split <;> omega
        · rw [if_neg hu0]; simp only; split <;> omega
    · obtain ⟨wu, -, -, -, m1, m2, m3, m4, m5⟩ := Pr.mark h hp hu hzu
      rw [Sg.dists_mark wu]
      generalize (t.see p.ti p.ne p.fa).st = S at *
      generalize (u.see p.ti p.ne p.fa).st = U at *
      have k : t.z < u.z := by
        apply Int.not_le.1; intro hc
        have k1 : (U.2 + 1) * u.z ≤ S.1 * u.z := Int.mul_le_mul_of_nonneg_right tu (by omega)
        have k2 : S.1 * u.z ≤ S.1 * t.z := Int.mul_le_mul_of_nonneg_left hc (by omega)
        omega
      simp only; omega
end Go.Proofs.Ytofdoadpaedogaa
