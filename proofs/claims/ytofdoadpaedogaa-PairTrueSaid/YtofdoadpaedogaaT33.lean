import Derived.Test.YtofdoadpaedogaaT32
namespace Go.Proofs.Ytofdoadpaedogaa
open Go.RowKit

theorem Sg.near_iff {s : Sg} {n f phi : Int} (hw : s.wit = .far n f) (hn : 0 < n) (_h : 0 ≤ phi) : s.tooNear phi = true ↔ 2000 < s.st.1 ∨ phi / n < s.st.1 := by
  have e : s.pw.1 = s.st.1 * n := by unfold Sg.pw; rw [hw]; rfl
  unfold Sg.tooNear
  rw [Bool.or_eq_true, decide_eq_true_eq, decide_eq_true_eq, e]
  rw [Int.ediv_lt_iff_lt_mul hn]
  have : 2000 < s.lo ↔ 2000 < s.st.1 := by rw [s.st_eq]; simp only; split <;> omega
  rw [this]
theorem Sg.far_iff {s : Sg} {n f plo : Int} (hw : s.wit = .far n f) (hf : 0 < f) : s.pw.2 < plo ↔ s.hi < plo / f ∨ 2000 < plo / f := by
  unfold Sg.pw
  rw [hw]
  simp only [Wit.powers]
  have h1 : (s.st.2 + 1) * f - 1 < plo ↔ s.st.2 + 1 ≤ plo / f := by rw [Int.le_ediv_iff_mul_le hf]; omega
  rw [h1, s.st_eq]
  simp only
  split <;> omega
theorem Sg.why1 {s : Sg} {plo phi : Int} (h : s.sl = true) : s.why plo phi = 1 := why_at (k := 0) (by omega) (fun j hj => by omega) h
theorem Sg.why2 {s : Sg} {plo phi : Int} (h0 : ¬ s.sl = true) (h : s.hi < 0) : s.why plo phi = 2 := why_at (k := 1) (by omega) (fun j hj => by
  match j, hj with
  | 0, _ => exact Bool.eq_false_iff.2 h0) (decide_eq_true h)
theorem Sg.why3 {s : Sg} {plo phi : Int} (h0 : ¬ s.sl = true) (h1 : ¬ s.hi < 0) (h : s.tooNear phi = true) : s.why plo phi = 3 := why_at (k := 2) (by omega) (fun j hj => by
  match j, hj with
  | 0, _ => exact Bool.eq_false_iff.2 h0
  | 1, _ => exact decide_eq_false h1) h
theorem Sg.why4 {s : Sg} {plo phi : Int} (h0 : ¬ s.sl = true) (h1 : ¬ s.hi < 0) (h2 : ¬ s.tooNear phi = true) (h : s.pw.2 < plo) : s.why plo phi = 4 := why_at (k := 3) (by omega) (fun j hj => by
  match j, hj with
  | 0, _ => exact Bool.eq_false_iff.2 h0
  | 1, _ => exact decide_eq_false h1
  | 2, _ => exact Bool.eq_false_iff.2 h2) (decide_eq_true h)
theorem Sg.why5 {s : Sg} {plo phi : Int} (h0 : ¬ s.sl = true) (h1 : ¬ s.hi < 0) (h2 : ¬ s.tooNear phi = true) (h : ¬ s.pw.2 < plo) : s.why plo phi = 0 := why_none (fun j hj => by
  match j, hj with
  | 0, _ => exact Bool.eq_false_iff.2 h0
  | 1, _ => exact decide_eq_false h1
  | 2, _ => exact Bool.eq_false_iff.2 h2
  | 3, _ => exact decide_eq_false h)
/-- Why a thing moved, by quotients. -/
theorem Pr.why_is {p : Pr} (h : p.ok = true) (hp : p.pw.1 ≤ p.pw.2) {t : Th} (ht : t ∈ p.l) :
    let s := t.see p.ti p.ne p.fa
    let near := 2000 < imax 0 s.lo ∨ p.pw.2 / p.ne < imax 0 s.lo
    let far := s.hi < p.pw.1 / p.fa ∨ 2000 < p.pw.1 / p.fa
    let rows := p.ti < t.c - t.h ∨ p.ti < t.g - t.d
    (s.why p.pw.1 p.pw.2 = 0 ∧ ¬ rows ∧ 0 ≤ s.hi ∧ (t.z ≠ 0 ∨ ¬ near ∧ ¬ far)) ∨ (s.why p.pw.1 p.pw.2 = 1 ∧ rows) ∨ (s.why p.pw.1 p.pw.2 = 2 ∧ ¬ rows ∧ s.hi < 0) ∨
    (s.why p.pw.1 p.pw.2 = 3 ∧ ¬ rows ∧ 0 ≤ s.hi ∧ near ∧ t.z = 0) ∨ (s.why p.pw.1 p.pw.2 = 4 ∧ ¬ rows ∧ 0 ≤ s.hi ∧ ¬ near ∧ far ∧ t.z = 0) := by
  intro s near far rows
  have hb := p.bounds h
  have hin := p.pw_in h
  have hne := hb.ne0
  have hnf := hb.ne1
  have hsl : s.sl = true ↔ rows := by
    show decide (p.ti < imax (t.c - t.h) (t.g - t.d)) = true ↔ _
    rw [decide_eq_true_eq]; unfold imax; show _ ↔ (p.ti < t.c - t.h ∨ p.ti < t.g - t.d); split <;> omega
  by_cases hz : t.z = 0
  · have hw : s.wit = .far p.ne p.fa := Th.far hz
    have e1 := Sg.near_iff (phi := p.pw.2) hw (by omega) (by omega)
    have e2 := Sg.far_iff (plo := p.pw.1) hw (by omega)
    have e3 : imax 0 s.lo = s.st.1 := by rw [s.st_eq]; unfold imax; simp only; split <;> split <;> omega
    have en : near ↔ s.tooNear p.pw.2 = true := by show (2000 < imax 0 s.lo ∨ p.pw.2 / p.ne < imax 0 s.lo) ↔ _; rw [e3, e1]
    have ef : far ↔ s.pw.2 < p.pw.1 := e2.symm
    by_cases r0 : s.sl = true
    · right; left; exact ⟨Sg.why1 r0, hsl.1 r0⟩
    · have r0' : ¬ rows := fun c => r0 (hsl.2 c)
      by_cases r1 : s.hi < 0
      · right; right; left; exact ⟨Sg.why2 r0 r1, r0', r1⟩
      · by_cases r2 : s.tooNear p.pw.2 = true
        · right; right; right; left; exact ⟨Sg.why3 r0 r1 r2, r0', by omega, en.2 r2, hz⟩
        · by_cases r3 : s.pw.2 < p.pw.1
          · right; right; right; right; exact ⟨Sg.why4 r0 r1 r2 r3, r0', by omega, fun c => r2 (en.1 c), ef.2 r3, hz⟩
          · left; exact ⟨Sg.why5 r0 r1 r2 r3, r0', by omega, .inr ⟨fun c => r2 (en.1 c), fun c => r3 (ef.1 c)⟩⟩
  · left
    obtain ⟨hw, h1, h2, -⟩ := Pr.mark h hp ht hz
    refine ⟨Pr.mark_why h hp ht hz, fun c => ?_, h2, .inl hz⟩
    have := hsl.2 c
    rw [this] at h1; cases h1
/-! A thing that is turned into a landmark. -/
def Th.at (t : Th) (z : Int) : Th := { t with z := z }
def Pr.marked (p : Pr) (n : Nat) (z : Int) : Pr := match p.l[n]? with
  | some t => { p with l := p.l.set n (t.at z) }
  | none => p
theorem valid_iff (fl fh bl bh ti ne fa : Int) (l : List Th) : valid fl fh bl bh ti ne fa l = true ↔ (1 ≤ fl ∧ fl ≤ fh ∧ fh ≤ 50000 ∧ 1 ≤ bl ∧ bl ≤ bh ∧ bh ≤ 10000 ∧ 0 ≤ ti ∧ ti ≤ 1000 ∧ 2000 ≤ ne ∧ ne ≤ fa ∧ fa ≤ 1073741824 ∧ l.length ≤ 12) ∧ ∀ t ∈ l, Th.valid ne fa t = true := by
  unfold valid
  rw [Bool.and_eq_true, List.all_eq_true, List.all_eq_true]
  constructor
  · rintro ⟨h1, h2⟩
    have h0 := fun k (hk : k < 6) => h1 k (List.mem_range.2 hk)
    have a0 := h0 0 (by omega)
    have a1 := h0 1 (by omega)
    have a2 := h0 2 (by omega)
    have a3 := h0 3 (by omega)
    have a4 := h0 4 (by omega)
    have a5 := h0 5 (by omega)
    simp [headValid, okSp] at a0 a1 a2 a3 a4 a5
    exact ⟨by omega, h2⟩
  · rintro ⟨h1, h2⟩
    refine ⟨fun k hk => ?_, h2⟩
    have hk := List.mem_range.1 hk
    match k, hk with
    | 0, _ => simp [headValid, okSp]; omega
    | 1, _ => simp [headValid, okSp]; omega
    | 2, _ => simp [headValid]; omega
    | 3, _ => simp [headValid]; omega
    | 4, _ => simp [headValid]; omega
    | 5, _ => simp [headValid]; omega
theorem Pr.marked_ok {p : Pr} (h : p.ok = true) {n : Nat} {t : Th} (ht : p.l[n]? = some t) {z : Int} (hz : p.ne ≤ z ∧ z ≤ p.fa) : (p.marked n z).ok = true := by
  have e : p.marked n z = { p with l := p.l.set n (t.at z) } := by unfold Pr.marked; rw [ht]
  rw [e]
  have hh := (valid_iff ..).1 h
  refine (valid_iff ..).2 ⟨by simpa using hh.1, ?_⟩
  intro u hu
  rcases List.mem_or_eq_of_mem_set hu with hu | rfl
  · exact hh.2 u hu
  · have := hh.2 t (List.mem_of_getElem? ht)
    show Th.valid p.ne p.fa (t.at z) = true
    unfold Th.valid at this ⊢
    rw [Bool.and_eq_true] at this ⊢
    refine ⟨this.1, ?_⟩
    simp only [Bool.or_eq_true, Bool.and_eq_true, decide_eq_true_eq]
    exact .inr hz
theorem Pr.marked_pw {p : Pr} {n : Nat} {t : Th} (ht : p.l[n]? = some t) (h0 : t.z = 0) {z : Int} (hz : z ≠ 0) :
    (p.marked n z).pw.1 ≤ (p.marked n z).pw.2 ↔ p.pw.1 ≤ p.pw.2 ∧ p.pw.1 ≤ ((t.at z).see p.ti p.ne p.fa).spw.2 ∧ ((t.at z).see p.ti p.ne p.fa).spw.1 ≤ p.pw.2 ∧ ((t.at z).see p.ti p.ne p.fa).spw.1 ≤ ((t.at z).see p.ti p.ne p.fa).spw.2 := by
  have hn := (List.getElem?_eq_some_iff.1 ht).1
  have e : p.marked n z = { p with l := p.l.set n (t.at z) } := by unfold Pr.marked; rw [ht]
  have hm : (t.at z).m = true := by simp [Th.m, Th.at, hz]
  have key : ∀ P : Th → Prop, (∀ u ∈ p.l.set n (t.at z), u.m = true → P u) ↔ (∀ u ∈ p.l, u.m = true → P u) ∧ P (t.at z) := by
    intro P
    constructor
    · intro H
      refine ⟨fun u hu hum => ?_, H _ (List.mem_set hn _) hm⟩
      obtain ⟨i, hi⟩ := List.mem_iff_getElem?.1 hu
      by_cases hin : i = n
      · subst hin; rw [ht] at hi; cases hi; simp [Th.m, h0] at hum
      · exact H u (List.mem_iff_getElem?.2 ⟨i, by rw [List.getElem?_set]; rw [if_neg (fun c => hin c.symm)]; exact hi⟩) hum
    · rintro ⟨H1, H2⟩ u hu hum
      rcases List.mem_or_eq_of_mem_set hu with hu | rfl
      · exact H1 u hu hum
      · exact H2
  have k1 : ∀ x, (p.marked n z).pw.1 ≤ x ↔ p.pw.1 ≤ x ∧ ((t.at z).see p.ti p.ne p.fa).spw.1 ≤ x := fun x => by
    rw [Pr.pw1, Pr.pw1, e]; simp only; rw [key]; rw [and_assoc]
  have k2 : ∀ x, x ≤ (p.marked n z).pw.2 ↔ x ≤ p.pw.2 ∧ x ≤ ((t.at z).see p.ti p.ne p.fa).spw.2 := fun x => by
    rw [Pr.pw2, Pr.pw2, e]; simp only; rw [key]; rw [and_assoc]
  rw [k1, k2, k2]
  constructor
  · rintro ⟨⟨a, b⟩, c, d⟩; exact ⟨a, b, c, d⟩
  · rintro ⟨a, b, c, d⟩; exact ⟨⟨a, b⟩, c, d⟩
/-- A thing can be so far away just if the distance is in its span. -/
theorem Pr.can_iff {p : Pr} (h : p.ok = true) (hp : p.pw.1 ≤ p.pw.2) {n : Nat} {t : Th} (ht : p.l[n]? = some t) (h0 : t.z = 0) {z : Int} (hz : p.ne ≤ z ∧ z ≤ p.fa) :
    (p.marked n z).pw.1 ≤ (p.marked n z).pw.2 ↔ (t.see p.ti p.ne p.fa).why p.pw.1 p.pw.2 = 0 ∧ ((t.see p.ti p.ne p.fa).dists p.pw.1 p.pw.2).1 ≤ z ∧ z ≤ ((t.see p.ti p.ne p.fa).dists p.pw.1 p.pw.2).2 := by
  have hb := p.bounds h
  have hin := p.pw_in h
  have hne := hb.ne0
  have hnf := hb.ne1
  have htm := List.mem_of_getElem? ht
  have hlh := Th.lohi h htm
  rw [Pr.marked_pw ht h0 (by omega)]
  have hw : (t.see p.ti p.ne p.fa).wit = .far p.ne p.fa := Th.far h0
  have hs : ((t.at z).see p.ti p.ne p.fa) = { t.see p.ti p.ne p.fa with wit := .mark z } := by
    have : z ≠ 0 := by omega
    unfold Th.see Th.wit Th.at
    simp only [this, if_false]
  rw [Sg.dists_far hw, dist_fst, dist_snd, hs]
  generalize t.see p.ti p.ne p.fa = s at *
  have hst : Sg.st { s with wit := .mark z } = s.st := rfl
  by_cases hsl : s.sl = true
  · have e1 : Sg.spw { s with wit := .mark z } = (1, 0) := by unfold Sg.spw; simp [hsl]
    have e2 : s.why p.pw.1 p.pw.2 = 1 := Sg.why1 hsl
    rw [e1, e2]; simp only; omega
  · have e1 : Sg.spw { s with wit := .mark z } = (s.st.1 * z, (s.st.2 + 1) * z - 1) := by
      show (if s.sl = true then (1, 0) else Sg.pw { s with wit := .mark z }) = _
      rw [if_neg hsl]; rfl
    rw [e1]
    simp only
    by_cases hhi : s.hi < 0
    · have e2 : s.why p.pw.1 p.pw.2 = 2 := Sg.why2 hsl hhi
      rw [e2]
      have : (s.st.2 + 1) * z ≤ 0 * z := Int.mul_le_mul_of_nonneg_right (by rw [s.st_eq]; simp only; split <;> omega) (by omega)
      simp at this
      omega
    · by_cases hlo : 2000 < s.lo
      · have e2 : s.why p.pw.1 p.pw.2 = 3 := Sg.why3 hsl hhi (by unfold Sg.tooNear; rw [decide_eq_true hlo]; rfl)
        rw [e2]
        have k1 : 2001 * z ≤ s.st.1 * z := Int.mul_le_mul_of_nonneg_right (by rw [s.st_eq]; simp only; split <;> omega) (by omega)
        have k2 : (s.st.2 + 1) * z ≤ 2001 * z := Int.mul_le_mul_of_nonneg_right (by rw [s.st_eq]; simp only; split <;> omega) (by omega)
        omega
      · have u0 : 0 ≤ s.st.1 := by rw [s.st_eq]; simp only; split <;> omega
        have u1 : s.st.1 ≤ s.st.2 := by rw [s.st_eq]; simp only; split <;> split <;> omega
        have hpw : s.pw = (s.st.1 * p.ne, (s.st.2 + 1) * p.fa - 1) := by unfold Sg.pw; rw [hw]; rfl
        have hwhy : s.why p.pw.1 p.pw.2 = 0 ↔ s.st.1 * p.ne ≤ p.pw.2 ∧ p.pw.1 ≤ (s.st.2 + 1) * p.fa - 1 := by
          have ht : s.tooNear p.pw.2 = true ↔ p.pw.2 < s.st.1 * p.ne := by unfold Sg.tooNear; rw [decide_eq_false hlo, Bool.false_or, hpw, decide_eq_true_eq]
          have hq : s.pw.2 < p.pw.1 ↔ (s.st.2 + 1) * p.fa - 1 < p.pw.1 := by rw [hpw]
          by_cases r2 : s.tooNear p.pw.2 = true
          · rw [Sg.why3 hsl hhi r2]; have := ht.1 r2; omega
          · have r2' : ¬ p.pw.2 < s.st.1 * p.ne := fun c => r2 (ht.2 c)
            by_cases r3 : s.pw.2 < p.pw.1
            · rw [Sg.why4 hsl hhi r2 r3]; have := hq.1 r3; omega
            · have r3' : ¬ (s.st.2 + 1) * p.fa - 1 < p.pw.1 := fun c => r3 (hq.2 c)
              rw [Sg.why5 hsl hhi r2 r3]; omega
        rw [hwhy]
        have d1 : p.pw.1 / (s.st.2 + 1) < z ↔ p.pw.1 < (s.st.2 + 1) * z := by rw [Int.ediv_lt_iff_lt_mul (by omega), Int.mul_comm]
        have d2 : 0 < s.st.1 → (z ≤ p.pw.2 / s.st.1 ↔ s.st.1 * z ≤ p.pw.2) := fun h => by rw [Int.le_ediv_iff_mul_le h, Int.mul_comm]
        have m1 : s.st.1 * p.ne ≤ s.st.1 * z := Int.mul_le_mul_of_nonneg_left (by omega) u0
        have m2 : (s.st.2 + 1) * z ≤ (s.st.2 + 1) * p.fa := Int.mul_le_mul_of_nonneg_left (by omega) (by omega)
        have m3 : s.st.1 * z + z ≤ (s.st.2 + 1) * z := by
          have : (s.st.1 + 1) * z ≤ (s.st.2 + 1) * z := Int.mul_le_mul_of_nonneg_right (by omega) (by omega)
          rw [Int.add_mul] at this; omega
        by_cases hu : 0 < s.st.1
        · have := d2 hu
          rw [if_pos hu]
          split <;> split <;> omega
        · have : s.st.1 = 0 := by omega
          have e0 : s.st.1 * z = 0 := by rw [this]; simp
          have e1 : s.st.1 * p.ne = 0 := by rw [this]; simp
          rw [if_neg hu]
          split <;> split <;> omega
end Go.Proofs.Ytofdoadpaedogaa
