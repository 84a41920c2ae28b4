import Derived.Test.YtofdoadpaedogaaFd
import Derived.Test.YtofdoadpaedogaaK1
namespace Go.Proofs.Ytofdoadpaedogaa
open Go.RowKit

/-- A power is among those that the specification gives a thing just if the thing can stand still with it. -/
theorem rpw_stands {p : Pr} (h : p.ok = true) {t : Th} (ht : t ∈ p.l) {x : Int} : ((rpw p.ti p.ne p.fa t).1 ≤ x ∧ x ≤ (rpw p.ti p.ne p.fa t).2) ↔ (t.see p.ti p.ne p.fa).why x x = 0 := by
  rw [Sg.stands_iff]
  have hlh := Th.lohi h ht
  have hst : (t.see p.ti p.ne p.fa).st = ovl (t.a - t.f, t.b - t.e) (0, 2000) := rfl
  have hsl : (t.see p.ti p.ne p.fa).sl = !(decide (t.c ≤ t.h + p.ti) && decide (t.g ≤ t.d + p.ti)) := by
    show decide (p.ti < imax (t.c - t.h) (t.g - t.d)) = _
    rw [Bool.eq_iff_iff]
    simp only [decide_eq_true_eq, Bool.not_eq_true', Bool.and_eq_false_iff, decide_eq_false_iff_not]
    unfold imax; split <;> omega
  have hpw : (t.see p.ti p.ne p.fa).pw = ((t.see p.ti p.ne p.fa).st.1 * (if t.z = 0 then p.ne else t.z), ((t.see p.ti p.ne p.fa).st.2 + 1) * (if t.z = 0 then p.fa else t.z) - 1) := by
    unfold Sg.pw
    by_cases hz : t.z = 0
    · rw [Th.far hz, if_pos hz, if_pos hz]; rfl
    · have hw : (t.see p.ti p.ne p.fa).wit = .mark t.z := by simp [Th.see, Th.wit, hz]
      rw [hw, if_neg hz, if_neg hz]; rfl
  have hne : (t.see p.ti p.ne p.fa).st.1 ≤ (t.see p.ti p.ne p.fa).st.2 ↔ 0 ≤ (t.see p.ti p.ne p.fa).hi ∧ (t.see p.ti p.ne p.fa).lo ≤ 2000 := by
    rw [(t.see p.ti p.ne p.fa).st_eq]; simp only; split <;> split <;> omega
  unfold rpw
  rw [← hst]
  cases hl : (decide (t.c ≤ t.h + p.ti) && decide (t.g ≤ t.d + p.ti)) with
  | false =>
    rw [if_neg (by simp)]
    rw [hl] at hsl
    constructor
    · intro c; have := c.1; have := c.2; simp only at *; omega
    · rintro ⟨c, -⟩; rw [hsl] at c; cases c
  | true =>
    rw [hl] at hsl
    by_cases hs : (t.see p.ti p.ne p.fa).st.1 ≤ (t.see p.ti p.ne p.fa).st.2
    · rw [if_pos ⟨rfl, hs⟩, hpw]
      have := hne.1 hs
      exact ⟨fun c => ⟨hsl, this.1, this.2, c⟩, fun c => c.2.2.2⟩
    · rw [if_neg (fun c => hs c.2)]
      constructor
      · intro c; have := c.1; have := c.2; simp only at *; omega
      · rintro ⟨-, c1, c2, -⟩; exact absurd (hne.2 ⟨c1, c2⟩) hs
theorem rwithTo_iff (p : Pr) (m : Nat) (x : Int) : ∀ k, k ≤ p.l.length → (((rwithTo p m k).1 ≤ x ∧ x ≤ (rwithTo p m k).2) ↔ (p.rall.1 ≤ x ∧ x ≤ p.rall.2) ∧ ∀ j t, j < k → p.l[j]? = some t → m.testBit j = false → (rpw p.ti p.ne p.fa t).1 ≤ x ∧ x ≤ (rpw p.ti p.ne p.fa t).2)
  | 0, _ => by
    constructor
    · intro h; exact ⟨h, fun j t hj => by omega⟩
    · exact fun h => h.1
  | k + 1, hk => by
    have ih := rwithTo_iff p m x k (by omega)
    have hlk : p.l[k]? = some p.l[k] := List.getElem?_eq_getElem (by omega)
    cases hb : m.testBit k with
    | true =>
      rw [rwithTo_in hlk hb, ih]
      constructor
      · rintro ⟨h1, h2⟩
        refine ⟨h1, fun j t hj ht hbj => ?_⟩
        by_cases e : j = k
        · subst e; rw [hb] at hbj; cases hbj
        · exact h2 j t (by omega) ht hbj
      · rintro ⟨h1, h2⟩
        exact ⟨h1, fun j t hj ht hbj => h2 j t (by omega) ht hbj⟩
    | false =>
      rw [rwithTo_out hlk hb]
      have ho : ((ovl (rwithTo p m k) (rpw p.ti p.ne p.fa p.l[k])).1 ≤ x ∧ x ≤ (ovl (rwithTo p m k) (rpw p.ti p.ne p.fa p.l[k])).2) ↔ ((rwithTo p m k).1 ≤ x ∧ x ≤ (rwithTo p m k).2) ∧ ((rpw p.ti p.ne p.fa p.l[k]).1 ≤ x ∧ x ≤ (rpw p.ti p.ne p.fa p.l[k]).2) := by
        unfold ovl; simp only; split <;> split <;> omega
      rw [ho, ih]
      constructor
      · rintro ⟨⟨h1, h2⟩, h3⟩
        refine ⟨h1, fun j t hj ht hbj => ?_⟩
        by_cases e : j = k
        · subst e; rw [hlk] at ht; cases ht; exact h3
        · exact h2 j t (by omega) ht hbj
      · rintro ⟨h1, h2⟩
        exact ⟨⟨h1, fun j t hj ht hbj => h2 j t (by omega) ht hbj⟩, h2 k _ (by omega) hlk hb⟩
/-- The powers with which all things but those of a set stand still. -/
theorem Pr.rwith_iff {p : Pr} (h : p.ok = true) (hp : p.pw.1 ≤ p.pw.2) (m : Nat) (x : Int) : ((p.rwith m).1 ≤ x ∧ x ≤ (p.rwith m).2) ↔ p.pw.1 ≤ x ∧ x ≤ p.pw.2 ∧ Sub (mv p.seen x) m := by
  unfold Pr.rwith
  rw [rwithTo_iff p m x _ (Nat.le_refl _), (Pr.rall_eq h).2 hp, and_assoc]
  have key : (∀ j t, j < p.l.length → p.l[j]? = some t → m.testBit j = false → (rpw p.ti p.ne p.fa t).1 ≤ x ∧ x ≤ (rpw p.ti p.ne p.fa t).2) ↔ Sub (mv p.seen x) m := by
    constructor
    · intro H j hj
      obtain ⟨s, hs, hw⟩ := (mv_bit p.seen x j).1 hj
      unfold Pr.seen seenOf at hs
      rw [List.getElem?_map] at hs
      cases hl : p.l[j]? with
      | none => rw [hl] at hs; cases hs
      | some t =>
        rw [hl] at hs
        cases hs
        cases hb : m.testBit j with
        | true => rfl
        | false => exact absurd ((rpw_stands h (List.mem_of_getElem? hl)).1 (H j t (List.getElem?_eq_some_iff.1 hl).1 hl hb)) hw
    · intro H j t hj ht hb
      refine (rpw_stands h (List.mem_of_getElem? ht)).2 ?_
      by_cases c : (t.see p.ti p.ne p.fa).why x x = 0
      · exact c
      · have := H j ((mv_bit p.seen x j).2 ⟨_, by unfold Pr.seen seenOf; rw [List.getElem?_map, ht]; rfl, c⟩)
        rw [hb] at this; cases this
  rw [key]
theorem rbest_is (p : Pr) : ∀ k, (rbest p k = -1 ∧ ∀ j, j < k → ¬ (p.rwith j).1 ≤ (p.rwith j).2) ∨ ∃ b : Nat, b < k ∧ rbest p k = b ∧ (p.rwith b).1 ≤ (p.rwith b).2 ∧ ∀ j, j < k → (p.rwith j).1 ≤ (p.rwith j).2 → Nle b j
  | 0 => .inl ⟨rfl, fun j hj => by omega⟩
  | k + 1 => by
    have ih := rbest_is p k
    by_cases hE : (p.rwith k).1 ≤ (p.rwith k).2
    · rcases ih with ⟨h1, h2⟩ | ⟨b, hb, h1, h2, h3⟩
      · refine .inr ⟨k, by omega, ?_, hE, fun j hj hj2 => ?_⟩
        · unfold rbest; rw [if_pos ⟨hE, .inl (by rw [h1]; decide)⟩]
        · by_cases e : j = k
          · subst e; exact Nle.refl _
          · exact absurd hj2 (h2 j (by omega))
      · by_cases hc : cnt k < cnt b
        · refine .inr ⟨k, by omega, ?_, hE, fun j hj hj2 => ?_⟩
          · unfold rbest; rw [if_pos ⟨hE, .inr (by rw [h1]; exact hc)⟩]
          · by_cases e : j = k
            · subst e; exact Nle.refl _
            · have := h3 j (by omega) hj2
              unfold Nle at this ⊢; omega
        · refine .inr ⟨b, by omega, ?_, h2, fun j hj hj2 => ?_⟩
          · unfold rbest
            rw [if_neg, h1]
            intro c
            rw [h1] at c
            rcases c.2 with c | c
            · omega
            · exact hc (by simpa using c)
          · by_cases e : j = k
            · subst e; unfold Nle; omega
            · exact h3 j (by omega) hj2
    · have e : rbest p (k + 1) = rbest p k := by
        show (if _ ∧ _ then _ else _) = _
        rw [if_neg (fun c => hE c.1)]
      rw [e]
      rcases ih with ⟨h1, h2⟩ | ⟨b, hb, h1, h2, h3⟩
      · refine .inl ⟨h1, fun j hj => ?_⟩
        by_cases e : j = k
        · subst e; exact hE
        · exact h2 j (by omega)
      · refine .inr ⟨b, by omega, h1, h2, fun j hj hj2 => ?_⟩
        by_cases e : j = k
        · subst e; exact absurd hj2 hE
        · exact h3 j (by omega) hj2
theorem Nle.antisymm {a b : Nat} (h : Nle a b) (k : Nle b a) : a = b := by unfold Nle at *; omega
/-- The fewest things that moved, by the specification, are those that are found by the tries, and so is the power. -/
theorem Pr.fewest_ref {p : Pr} (h : p.ok = true) (hp : p.pw.1 ≤ p.pw.2) : ∃ b : Nat, b < 4096 ∧ rbest p (2 ^ p.l.length) = b ∧ p.fewest = ((b : Int), (p.rwith b).1, (p.rwith b).2, 0) := by
  have hln : p.seen.length = p.l.length := by unfold Pr.seen seenOf; simp
  obtain ⟨x0, a1, a2, hm, hmin, hlh, hspan⟩ := best_tries hp p.seen (p.len h)
  have hS : mv p.seen x0 < 2 ^ p.l.length := by rw [← hln]; exact movedTo_lt _ _ _
  have hN : 2 ^ p.l.length ≤ 4096 := by
    have := Nat.pow_le_pow_right (n := 2) (by omega) (p.bounds h).len
    simpa using this
  have hiff := fun x => (Pr.rwith_iff h hp (mv p.seen x0) x).trans (hspan x).symm
  have e1 := (hiff _).2 ⟨Int.le_refl _, hlh⟩
  have e2 := (hiff _).2 ⟨hlh, Int.le_refl _⟩
  have hE : (p.rwith (mv p.seen x0)).1 ≤ (p.rwith (mv p.seen x0)).2 := by omega
  have e3 := (hiff _).1 ⟨Int.le_refl _, hE⟩
  have e4 := (hiff _).1 ⟨hE, Int.le_refl _⟩
  rcases rbest_is p (2 ^ p.l.length) with ⟨-, hno⟩ | ⟨b, hb, hb1, hb2, hb3⟩
  · exact absurd hE (hno _ hS)
  · have k1 : Nle b (mv p.seen x0) := hb3 _ hS hE
    have k2 : Nle (mv p.seen x0) b := by
      have hx := (Pr.rwith_iff h hp b _).1 ⟨Int.le_refl _, hb2⟩
      exact (hmin _ hx.1 hx.2.1).trans hx.2.2.nle
    have hbs := Nle.antisymm k1 k2
    subst hbs
    refine ⟨_, by omega, hb1, ?_⟩
    unfold Pr.fewest
    rw [if_pos h, if_pos hp, hm]
    have f1 : (p.rwith (mv p.seen x0)).1 = (Best.of p.seen (triesList p.pw.1 p.pw.2 p.seen)).lo := by omega
    have f2 : (p.rwith (mv p.seen x0)).2 = (Best.of p.seen (triesList p.pw.1 p.pw.2 p.seen)).hi := by omega
    rw [f1, f2]
end Go.Proofs.Ytofdoadpaedogaa
