import Derived.Test.YtofdoadpaedogaaT28
namespace Go.Proofs.Ytofdoadpaedogaa
open Go.RowKit

/-! The mathematics of a pair, with no program in it. -/
theorem ovl_le1 (l : List (Int × Int)) (x : Int) : ∀ a : Int × Int, (l.foldl ovl a).1 ≤ x ↔ a.1 ≤ x ∧ ∀ s ∈ l, s.1 ≤ x := by
  induction l with
  | nil => intro a; simp
  | cons y l ih =>
    intro a
    simp only [List.foldl_cons, List.mem_cons, forall_eq_or_imp]
    rw [ih]
    have : (ovl a y).1 ≤ x ↔ a.1 ≤ x ∧ y.1 ≤ x := by unfold ovl; simp only; split <;> omega
    rw [this, and_assoc]
theorem ovl_le2 (l : List (Int × Int)) (x : Int) : ∀ a : Int × Int, x ≤ (l.foldl ovl a).2 ↔ x ≤ a.2 ∧ ∀ s ∈ l, x ≤ s.2 := by
  induction l with
  | nil => intro a; simp
  | cons y l ih =>
    intro a
    simp only [List.foldl_cons, List.mem_cons, forall_eq_or_imp]
    rw [ih]
    have : x ≤ (ovl a y).2 ↔ x ≤ a.2 ∧ x ≤ y.2 := by unfold ovl; simp only; split <;> omega
    rw [this, and_assoc]
def Th.m (t : Th) : Bool := !decide (t.z = 0)
theorem marks_bit (l : List Th) : ∀ n j, (marksTo l n).testBit j = (decide (j < n) && (l.getD j ⟨0, 0, 0, 0, 0, 0, 0, 0, 0⟩).m)
  | 0, j => by simp [marksTo]
  | n + 1, j => by
    unfold marksTo
    by_cases hz : (l.getD n ⟨0, 0, 0, 0, 0, 0, 0, 0, 0⟩).z = 0
    · rw [if_pos hz, marks_bit l n j]
      by_cases hj : j = n
      · subst hj; simp [Th.m]; simpa using hz
      · have : decide (j < n + 1) = decide (j < n) := by simp only [decide_eq_decide]; omega
        rw [this]
    · rw [if_neg hz, Nat.testBit_or, marks_bit l n j, Nat.testBit_two_pow]
      by_cases hj : j = n
      · subst hj; simp [Th.m]; simpa using hz
      · have : decide (j < n + 1) = decide (j < n) := by simp only [decide_eq_decide]; omega
        rw [this]
        have : decide (n = j) = false := by simp; omega
        rw [this, Bool.or_false]
theorem pick_marks (ti ne fa : Int) (l : List Th) : ∀ k, k ≤ l.length → pickTo (seenOf ti ne fa l) (marksTo l l.length) k = ((l.take k).filter Th.m).map (Th.see ti ne fa)
  | 0, _ => by simp [pickTo]
  | k + 1, hk => by
    unfold pickTo
    rw [marks_bit, pick_marks ti ne fa l k (by omega)]
    have hk' : k < l.length := by omega
    have e1 : l.take (k + 1) = l.take k ++ [l[k]] := by rw [List.take_add_one]; simp [hk']
    have e2 : l.getD k ⟨0, 0, 0, 0, 0, 0, 0, 0, 0⟩ = l[k] := by simp [List.getD, hk']
    rw [e1, e2, List.filter_append, List.map_append]
    have e3 : (seenOf ti ne fa l)[k]? = some (Th.see ti ne fa l[k]) := by simp [seenOf, hk']
    rw [e3]
    cases hm : l[k].m <;> simp [hk', hm, List.filter]
def Th.spw (ti ne fa : Int) (t : Th) : Int × Int := (t.see ti ne fa).spw
theorem Pr.pw_eq (p : Pr) : p.pw = (((p.l.filter Th.m).map (Th.see p.ti p.ne p.fa)).map Sg.spw).foldl ovl (p.fl * p.bl, p.fh * p.bh) := by
  unfold Pr.pw allPw
  rw [pick_marks _ _ _ _ _ (Nat.le_refl _), List.take_length]
theorem Pr.pw1 (p : Pr) (x : Int) : p.pw.1 ≤ x ↔ p.fl * p.bl ≤ x ∧ ∀ t ∈ p.l, t.m = true → (t.see p.ti p.ne p.fa).spw.1 ≤ x := by
  rw [p.pw_eq, ovl_le1]
  simp only [List.mem_map, List.mem_filter]
  constructor
  · rintro ⟨h1, h2⟩; exact ⟨h1, fun t ht hm => h2 _ ⟨_, ⟨t, ⟨ht, hm⟩, rfl⟩, rfl⟩⟩
  · rintro ⟨h1, h2⟩; refine ⟨h1, ?_⟩; rintro s ⟨_, ⟨t, ⟨ht, hm⟩, rfl⟩, rfl⟩; exact h2 t ht hm
theorem Pr.pw2 (p : Pr) (x : Int) : x ≤ p.pw.2 ↔ x ≤ p.fh * p.bh ∧ ∀ t ∈ p.l, t.m = true → x ≤ (t.see p.ti p.ne p.fa).spw.2 := by
  rw [p.pw_eq, ovl_le2]
  simp only [List.mem_map, List.mem_filter]
  constructor
  · rintro ⟨h1, h2⟩; exact ⟨h1, fun t ht hm => h2 _ ⟨_, ⟨t, ⟨ht, hm⟩, rfl⟩, rfl⟩⟩
  · rintro ⟨h1, h2⟩; refine ⟨h1, ?_⟩; rintro s ⟨_, ⟨t, ⟨ht, hm⟩, rfl⟩, rfl⟩; exact h2 t ht hm
/-- What validity says of the order of a thing's spans. -/
theorem Pr.order {p : Pr} (h : p.ok = true) {t : Th} (ht : t ∈ p.l) : t.a ≤ t.b ∧ t.c ≤ t.d ∧ t.e ≤ t.f ∧ t.g ≤ t.h := by
  unfold Pr.ok valid at h
  rw [Bool.and_eq_true] at h
  have := List.all_eq_true.1 h.2 t ht
  simp [Th.valid, okSp] at this
  omega
/-- A thing that is seen, out of its number. -/
theorem Pr.at_th {p : Pr} {k : Int} {s : Sg} (h : p.at k = some s) : ∃ t ∈ p.l, s = t.see p.ti p.ne p.fa := by
  obtain ⟨n, -, hn⟩ := Pr.at_some h
  obtain ⟨t, ht, e⟩ := List.mem_map.1 (List.mem_of_getElem? hn)
  exact ⟨t, ht, e.symm⟩
theorem Th.lohi {p : Pr} (h : p.ok = true) {t : Th} (ht : t ∈ p.l) : (t.see p.ti p.ne p.fa).lo ≤ (t.see p.ti p.ne p.fa).hi := by
  have := Pr.order h ht
  simp only [Th.see]; omega
theorem Sg.st_eq (s : Sg) : s.st = (if s.lo < 0 then 0 else s.lo, if 2000 < s.hi then 2000 else s.hi) := rfl
/-- What a landmark says when there is a truth: it stood. -/
theorem Pr.mark {p : Pr} (h : p.ok = true) (hp : p.pw.1 ≤ p.pw.2) {t : Th} (ht : t ∈ p.l) (hz : t.z ≠ 0) :
    (t.see p.ti p.ne p.fa).wit = .mark t.z ∧ (t.see p.ti p.ne p.fa).sl = false ∧ 0 ≤ (t.see p.ti p.ne p.fa).hi ∧ (t.see p.ti p.ne p.fa).lo ≤ 2000 ∧ (t.see p.ti p.ne p.fa).st.1 * t.z ≤ p.pw.1 ∧ p.pw.2 ≤ ((t.see p.ti p.ne p.fa).st.2 + 1) * t.z - 1 ∧ 2000 ≤ t.z ∧ p.ne ≤ t.z ∧ t.z ≤ p.fa := by
  have hm : t.m = true := by simp [Th.m, hz]
  have hb := p.bounds h
  have hzz := (hb.things t ht).2
  have h1 := ((p.pw1 p.pw.1).1 (Int.le_refl _)).2 t ht hm
  have h2 := ((p.pw2 p.pw.2).1 (Int.le_refl _)).2 t ht hm
  have hin := p.pw_in h
  have hne := hb.ne0
  have hlh := Th.lohi h ht
  have hw : (t.see p.ti p.ne p.fa).wit = .mark t.z := by simp [Th.see, Th.wit, hz]
  generalize t.see p.ti p.ne p.fa = s at *
  have hzp : 2000 ≤ t.z := by omega
  cases hs : s.sl with
  | true => simp [Sg.spw, hs] at h1 h2; omega
  | false =>
    simp [Sg.spw, hs, Sg.pw, hw, Wit.powers] at h1 h2
    refine ⟨hw, rfl, ?_, ?_, h1, by omega, hzp, by omega, by omega⟩
    · apply Int.not_lt.1; intro hc
      have : s.st.2 + 1 ≤ 0 := by rw [s.st_eq]; simp only; split <;> omega
      have := Int.mul_le_mul_of_nonneg_right this (show 0 ≤ t.z by omega)
      simp at this; omega
    · apply Int.not_lt.1; intro hc
      have e1 : 2001 ≤ s.st.1 := by rw [s.st_eq]; simp only; split <;> omega
      have e2 : s.st.2 + 1 ≤ 2001 := by rw [s.st_eq]; simp only; split <;> omega
      have := Int.mul_le_mul_of_nonneg_right e1 (show 0 ≤ t.z by omega)
      have := Int.mul_le_mul_of_nonneg_right e2 (show 0 ≤ t.z by omega)
      omega
theorem Sg.why_mark {s : Sg} {m plo phi : Int} (hw : s.wit = .mark m) (h1 : s.sl = false) (h2 : 0 ≤ s.hi) (h3 : s.lo ≤ 2000) (h4 : s.st.1 * m ≤ phi) (h5 : plo ≤ (s.st.2 + 1) * m - 1) : s.why plo phi = 0 := by
  have e : s.pw = (s.st.1 * m, (s.st.2 + 1) * m - 1) := by unfold Sg.pw; rw [hw]; rfl
  refine why_none fun j hj => ?_
  match j, hj with
  | 0, _ => exact h1
  | 1, _ => exact decide_eq_false (by omega)
  | 2, _ => exact Bool.or_eq_false_iff.2 ⟨decide_eq_false (by omega), decide_eq_false (by rw [e]; simp only; omega)⟩
  | 3, _ => exact decide_eq_false (by rw [e]; simp only; omega)
theorem Pr.mark_why {p : Pr} (h : p.ok = true) (hp : p.pw.1 ≤ p.pw.2) {t : Th} (ht : t ∈ p.l) (hz : t.z ≠ 0) : (t.see p.ti p.ne p.fa).why p.pw.1 p.pw.2 = 0 := by
  obtain ⟨hw, h1, h2, h3, h4, h5, -⟩ := Pr.mark h hp ht hz
  exact Sg.why_mark hw h1 h2 h3 (by omega) (by omega)
theorem Th.far {p : Pr} {t : Th} (hz : t.z = 0) : (t.see p.ti p.ne p.fa).wit = .far p.ne p.fa := by simp [Th.see, Th.wit, hz]
/-- The distances of a thing whose own is not known. -/
theorem Sg.dists_far {s : Sg} {n f plo phi : Int} (hw : s.wit = .far n f) : s.dists plo phi = dist n f plo phi s.st.1 s.st.2 := by
  unfold Sg.dists; rw [hw]
theorem Sg.dists_mark {s : Sg} {m plo phi : Int} (hw : s.wit = .mark m) : s.dists plo phi = (m, m) := by
  unfold Sg.dists; rw [hw]
end Go.Proofs.Ytofdoadpaedogaa
