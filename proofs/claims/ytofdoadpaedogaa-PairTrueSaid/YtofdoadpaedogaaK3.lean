import Derived.Test.YtofdoadpaedogaaK2
namespace Go.Proofs.Ytofdoadpaedogaa
open Go.RowKit

/-- The things that are not in a set, of the first k. -/
def keepTo (m : Nat) (l : List Th) : Nat → List Th
  | 0 => []
  | k + 1 => match l[k]? with
    | some t => if m.testBit k then keepTo m l k else keepTo m l k ++ [t]
    | none => keepTo m l k
theorem keepTo_mem {m : Nat} {l : List Th} {t : Th} : ∀ k, t ∈ keepTo m l k ↔ ∃ j, j < k ∧ l[j]? = some t ∧ m.testBit j = false
  | 0 => by
    constructor
    · intro h; cases h
    · rintro ⟨_, h, _⟩; exact absurd h (Nat.not_lt_zero _)
  | k + 1 => by
    have ih := keepTo_mem (m := m) (l := l) (t := t) k
    have base : ∀ P : Prop, (P → l[k]? = some t ∧ m.testBit k = false) → ((l[k]? = some t ∧ m.testBit k = false) → P) → ((t ∈ keepTo m l k ∨ P) ↔ ∃ j, j < k + 1 ∧ l[j]? = some t ∧ m.testBit j = false) := by
      intro P hP hQ
      constructor
      · rintro (h | h)
        · obtain ⟨j, a, b⟩ := ih.1 h; exact ⟨j, by omega, b⟩
        · exact ⟨k, by omega, hP h⟩
      · rintro ⟨j, a, b⟩
        by_cases e : j = k
        · subst e; exact .inr (hQ b)
        · exact .inl (ih.2 ⟨j, by omega, b⟩)
    unfold keepTo
    cases hl : l[k]? with
    | none => simpa using base False (by simp) (by simp [hl])
    | some u =>
      cases hb : m.testBit k with
      | true => simpa [hb] using base False (by simp) (by simp [hb])
      | false =>
        show t ∈ keepTo m l k ++ [u] ↔ _
        rw [List.mem_append, List.mem_singleton]
        exact base (t = u) (fun e => ⟨by rw [hl, e], hb⟩) (fun e => by have := e.1; rw [hl] at this; exact (Option.some.inj this).symm)
theorem keepTo_len {m : Nat} {l : List Th} : ∀ k, (keepTo m l k).length ≤ k
  | 0 => Nat.le_refl _
  | k + 1 => by
    have := keepTo_len (m := m) (l := l) k
    unfold keepTo
    split
    · split
      · omega
      · rw [List.length_append]; simpa using this
    · omega
/-- A pair without the things of a set. -/
def Pr.without (p : Pr) (m : Nat) : Pr := { p with l := keepTo m p.l p.l.length }
theorem Pr.without_mem {p : Pr} {m : Nat} {t : Th} : t ∈ (p.without m).l ↔ ∃ j, p.l[j]? = some t ∧ m.testBit j = false := by
  refine (keepTo_mem _).trans ⟨fun ⟨j, _, b⟩ => ⟨j, b⟩, fun ⟨j, b⟩ => ⟨j, (List.getElem?_eq_some_iff.1 b.1).1, b⟩⟩
theorem Pr.without_sub {p : Pr} {m : Nat} {t : Th} (h : t ∈ (p.without m).l) : t ∈ p.l := by
  obtain ⟨j, a, -⟩ := Pr.without_mem.1 h
  exact List.mem_of_getElem? a
theorem Pr.without_ok {p : Pr} (h : p.ok = true) (m : Nat) : (p.without m).ok = true := by
  unfold Pr.ok at h ⊢
  rw [valid_iff] at h ⊢
  have := keepTo_len (m := m) (l := p.l) p.l.length
  obtain ⟨⟨a0, a1, a2, a3, a4, a5, a6, a7, a8, a9, a10, a11⟩, b⟩ := h
  exact ⟨⟨a0, a1, a2, a3, a4, a5, a6, a7, a8, a9, a10, by show (keepTo m p.l p.l.length).length ≤ 12; omega⟩, fun t ht => b t (Pr.without_sub ht)⟩
theorem Th.m_iff (t : Th) : t.m = true ↔ t.z ≠ 0 := by unfold Th.m; simp
/-- Without things that are no landmarks the power is the same. -/
theorem Pr.without_pw {p : Pr} {m : Nat} (hm : ∀ j t, p.l[j]? = some t → t.z ≠ 0 → m.testBit j = false) : (p.without m).pw = p.pw := by
  have hk : ∀ t, t.m = true → (t ∈ (p.without m).l ↔ t ∈ p.l) := fun t ht => by
    refine ⟨Pr.without_sub, fun h => ?_⟩
    obtain ⟨j, hj⟩ := List.getElem?_of_mem h
    exact Pr.without_mem.2 ⟨j, hj, hm j t hj (t.m_iff.1 ht)⟩
  have e1 : ∀ x, (p.without m).pw.1 ≤ x ↔ p.pw.1 ≤ x := fun x => by
    rw [Pr.pw1, Pr.pw1]
    exact and_congr_right fun _ => ⟨fun H t ht hz => H t ((hk t hz).2 ht) hz, fun H t ht hz => H t ((hk t hz).1 ht) hz⟩
  have e2 : ∀ x, x ≤ (p.without m).pw.2 ↔ x ≤ p.pw.2 := fun x => by
    rw [Pr.pw2, Pr.pw2]
    exact and_congr_right fun _ => ⟨fun H t ht hz => H t ((hk t hz).2 ht) hz, fun H t ht hz => H t ((hk t hz).1 ht) hz⟩
  have a := (e1 _).1 (Int.le_refl _)
  have b := (e1 _).2 (Int.le_refl _)
  have c := (e2 _).1 (Int.le_refl _)
  have d := (e2 _).2 (Int.le_refl _)
  exact Prod.ext (by omega) (by omega)
theorem Pr.seen_at {p : Pr} {j : Nat} {s : Sg} : p.seen[j]? = some s ↔ ∃ t, p.l[j]? = some t ∧ s = t.see p.ti p.ne p.fa := by
  unfold Pr.seen seenOf
  rw [List.getElem?_map]
  cases p.l[j]? with
  | none => simp
  | some t => simp [eq_comm]
/-- What moved at a power, of the things that are left: none, where the set holds all that moved. -/
theorem Pr.without_mv (p : Pr) (m : Nat) (x : Int) : Sub (mv (p.without m).seen x) 0 ↔ Sub (mv p.seen x) m := by
  constructor
  · intro H j hj
    obtain ⟨s, hs, hw⟩ := (mv_bit _ _ _).1 hj
    obtain ⟨t, ht, rfl⟩ := Pr.seen_at.1 hs
    cases hb : m.testBit j with
    | true => rfl
    | false =>
      obtain ⟨i, hi⟩ := List.getElem?_of_mem (Pr.without_mem.2 ⟨j, ht, hb⟩)
      have := H i ((mv_bit _ _ _).2 ⟨_, Pr.seen_at.2 ⟨t, hi, rfl⟩, hw⟩)
      simp at this
  · intro H i hi
    obtain ⟨s, hs, hw⟩ := (mv_bit _ _ _).1 hi
    obtain ⟨t, ht, rfl⟩ := Pr.seen_at.1 hs
    obtain ⟨j, hj, hb⟩ := Pr.without_mem.1 (List.mem_of_getElem? ht)
    have := H j ((mv_bit _ _ _).2 ⟨_, Pr.seen_at.2 ⟨t, hj, rfl⟩, hw⟩)
    rw [hb] at this; cases this
/-- All that is to be known of the fewest things that moved. -/
theorem Pr.fewest_full {p : Pr} (h : p.ok = true) (hp : p.pw.1 ≤ p.pw.2) : ∃ b : Nat, b < 2 ^ p.l.length ∧ p.fewest = ((b : Int), (p.rwith b).1, (p.rwith b).2, 0) ∧ (p.rwith b).1 ≤ (p.rwith b).2 ∧
    (∀ j : Nat, (p.rwith j).1 ≤ (p.rwith j).2 → Nle b j) ∧ ∀ x, (p.rwith b).1 ≤ x → x ≤ (p.rwith b).2 → mv p.seen x = b := by
  have hln : p.seen.length = p.l.length := by unfold Pr.seen seenOf; simp
  have hlt : ∀ x, mv p.seen x < 2 ^ p.l.length := fun x => by rw [← hln]; exact movedTo_lt _ _ _
  obtain ⟨b, -, hb, hf⟩ := p.fewest_ref h hp
  rcases rbest_is p (2 ^ p.l.length) with ⟨h0, -⟩ | ⟨c, hc, hc1, hc2, hc3⟩
  · rw [hb] at h0; omega
  · rw [hb] at hc1
    have e : b = c := by omega
    subst e
    have own : ∀ (m : Nat) (x : Int), (p.rwith m).1 ≤ x → x ≤ (p.rwith m).2 → (p.rwith (mv p.seen x)).1 ≤ (p.rwith (mv p.seen x)).2 ∧ Sub (mv p.seen x) m := fun m x h1 h2 => by
      have a := (p.rwith_iff h hp m x).1 ⟨h1, h2⟩
      have a' := (p.rwith_iff h hp (mv p.seen x) x).2 ⟨a.1, a.2.1, fun _ hj => hj⟩
      exact ⟨by omega, a.2.2⟩
    refine ⟨b, hc, hf, hc2, fun j hj => ?_, fun x h1 h2 => ?_⟩
    · have a := own j _ (Int.le_refl _) hj
      exact (hc3 _ (hlt _) a.1).trans a.2.nle
    · have a := own b x h1 h2
      exact a.2.eq (hc3 _ (hlt _) a.1)
/-- A landmark stands at every power; and a thing that no power of the span explains stands at none. -/
theorem Pr.mark_stands {p : Pr} (h : p.ok = true) (hp : p.pw.1 ≤ p.pw.2) {t : Th} (ht : t ∈ p.l) (hz : t.z ≠ 0) {x : Int} (h1 : p.pw.1 ≤ x) (h2 : x ≤ p.pw.2) : (t.see p.ti p.ne p.fa).why x x = 0 := by
  obtain ⟨a0, a1, a2, -, -⟩ := Sg.why_zero (p.mark_why h hp ht hz)
  have b1 := ((p.pw1 x).1 h1).2 t ht (t.m_iff.2 hz)
  have b2 := ((p.pw2 x).1 h2).2 t ht (t.m_iff.2 hz)
  unfold Sg.spw at b1 b2
  rw [if_neg (by simp [a0])] at b1 b2
  exact (Sg.stands_iff _ x).2 ⟨a0, a1, a2, b1, b2⟩
theorem Sg.why_wide {s : Sg} {x P Q : Int} (h : s.why x x = 0) (h1 : P ≤ x) (h2 : x ≤ Q) : s.why P Q = 0 := by
  obtain ⟨a0, a1, a2, a3, a4⟩ := (s.stands_iff x).1 h
  refine Sg.why5 (by simp [a0]) (by omega) ?_ (by omega)
  unfold Sg.tooNear
  simp only [Bool.or_eq_true, decide_eq_true_eq]
  omega
/-- What the law of the fewest asks, of a pair that is valid and has a truth. -/
theorem Pr.fewest_laws {p : Pr} (h : p.ok = true) (hp : p.pw.1 ≤ p.pw.2) : ∃ (b : Nat) (u v : Int), b < 2 ^ p.l.length ∧ p.fewest = ((b : Int), u, v, 0) ∧
    (∀ (i : Nat) t, p.l[i]? = some t → ∃ y, p.why i = (y, 0) ∧ (t.z ≠ 0 → y = 0 ∧ b.testBit i = false) ∧ (y ≠ 0 → b.testBit i = true)) ∧
    (p.without b).fewest = (0, u, v, 0) ∧
    ∀ m : Nat, (∀ j t, p.l[j]? = some t → t.z ≠ 0 → m.testBit j = false) → ∃ (c : Nat) (u' v' : Int), (p.without m).fewest = ((c : Int), u', v', 0) ∧ (c = 0 → Nle b m) := by
  obtain ⟨b, hb, hf, hne, hmin, hown⟩ := p.fewest_full h hp
  have x1 := (p.rwith_iff h hp b _).1 ⟨Int.le_refl _, hne⟩
  have hz : ∀ j t, p.l[j]? = some t → t.z ≠ 0 → b.testBit j = false := fun j t hj hz => by
    cases hc : b.testBit j with
    | false => rfl
    | true =>
      rw [← hown _ (Int.le_refl _) hne] at hc
      obtain ⟨s, hs, hw⟩ := (mv_bit _ _ _).1 hc
      obtain ⟨t', ht', rfl⟩ := Pr.seen_at.1 hs
      rw [hj] at ht'; cases ht'
      exact absurd (p.mark_stands h hp (List.mem_of_getElem? hj) hz x1.1 x1.2.1) hw
  refine ⟨b, _, _, hb, hf, fun i t hi => ?_, ?_, fun m hm => ?_⟩
  · have hat : p.at (i : Int) = some (t.see p.ti p.ne p.fa) := by
      unfold Pr.at
      rw [if_pos (Int.natCast_nonneg _), Int.toNat_natCast]
      exact Pr.seen_at.2 ⟨t, hi, rfl⟩
    refine ⟨(t.see p.ti p.ne p.fa).why p.pw.1 p.pw.2, ?_, fun hzt => ⟨p.mark_why h hp (List.mem_of_getElem? hi) hzt, hz i t hi hzt⟩, fun hy => ?_⟩
    · unfold Pr.why; rw [if_pos h, hat]; simp only; rw [if_pos hp]
    · have hw : (t.see p.ti p.ne p.fa).why (p.rwith b).1 (p.rwith b).1 ≠ 0 := fun c => hy (Sg.why_wide c x1.1 x1.2.1)
      exact x1.2.2 i ((mv_bit _ _ _).2 ⟨_, Pr.seen_at.2 ⟨t, hi, rfl⟩, hw⟩)
  · have epw := p.without_pw hz
    have h' := p.without_ok h b
    have hp' : (p.without b).pw.1 ≤ (p.without b).pw.2 := by rw [epw]; exact hp
    obtain ⟨c, -, hf', hne', hmin', -⟩ := (p.without b).fewest_full h' hp'
    have same : ∀ x, (((p.without b).rwith 0).1 ≤ x ∧ x ≤ ((p.without b).rwith 0).2) ↔ ((p.rwith b).1 ≤ x ∧ x ≤ (p.rwith b).2) := fun x => by
      rw [(p.without b).rwith_iff h' hp', p.rwith_iff h hp, epw, p.without_mv]
    have y1 := (same _).2 ⟨Int.le_refl _, hne⟩
    have y2 := (same _).2 ⟨hne, Int.le_refl _⟩
    have y3 := (same _).1 ⟨Int.le_refl _, by omega⟩
    have y4 := (same ((p.without b).rwith 0).2).1 ⟨by omega, Int.le_refl _⟩
    have c0 : c = 0 := Sub.eq (a := 0) (b := c) (fun j hj => by simp at hj) (hmin' 0 (by omega)) |>.symm
    subst c0
    rw [hf']
    have e1 : ((p.without b).rwith 0).1 = (p.rwith b).1 := by omega
    have e2 : ((p.without b).rwith 0).2 = (p.rwith b).2 := by omega
    rw [e1, e2]; rfl
  · have epw := p.without_pw hm
    have h' := p.without_ok h m
    have hp' : (p.without m).pw.1 ≤ (p.without m).pw.2 := by rw [epw]; exact hp
    obtain ⟨c, -, hf', hne', -, hown'⟩ := (p.without m).fewest_full h' hp'
    refine ⟨c, _, _, hf', fun c0 => ?_⟩
    subst c0
    have y1 := ((p.without m).rwith_iff h' hp' 0 _).1 ⟨Int.le_refl _, hne'⟩
    rw [epw, p.without_mv] at y1
    have y2 := (p.rwith_iff h hp m _).2 y1
    exact hmin m (by omega)
end Go.Proofs.Ytofdoadpaedogaa
