import Derived.Test.YtofdoadpaedogaaK3
import Derived.Test.YtofdoadpaedogaaM1
import Derived.Deep.CutBlock
import Derived.Deep.DeepCutAuto
import Derived.Deep.QuietTactic
import Derived.BigQuiet
namespace Go.Proofs.Ytofdoadpaedogaa
open Go.RowKit

/-! A pair of which more is known: narrower spans, a lesser Tilt, a landmark more. -/
structure Th.Nw (ne fa : Int) (t u : Th) : Prop where
  x : t.a ≤ u.a ∧ u.b ≤ t.b ∧ t.e ≤ u.e ∧ u.f ≤ t.f
  y : t.c ≤ u.c ∧ u.d ≤ t.d ∧ t.g ≤ u.g ∧ u.h ≤ t.h
  z : u.z = t.z ∨ t.z = 0 ∧ ne ≤ u.z ∧ u.z ≤ fa
theorem Th.Nw.refl (ne fa : Int) (t : Th) : Th.Nw ne fa t t := ⟨⟨Int.le_refl _, Int.le_refl _, Int.le_refl _, Int.le_refl _⟩, ⟨Int.le_refl _, Int.le_refl _, Int.le_refl _, Int.le_refl _⟩, .inl rfl⟩
structure Pr.Nw (p q : Pr) : Prop where
  f : p.fl ≤ q.fl ∧ q.fh ≤ p.fh
  b : p.bl ≤ q.bl ∧ q.bh ≤ p.bh
  ti : q.ti ≤ p.ti
  ne : q.ne = p.ne
  fa : q.fa = p.fa
  len : q.l.length = p.l.length
  l : ∀ (i : Nat) (t u : Th), p.l[i]? = some t → q.l[i]? = some u → Th.Nw p.ne p.fa t u
theorem imax_le {a b x : Int} : imax a b ≤ x ↔ a ≤ x ∧ b ≤ x := by unfold imax; split <;> omega
/-- What is seen of a thing of which more is known. -/
structure Sg.Nw (ne fa : Int) (s r : Sg) : Prop where
  lo : s.lo ≤ r.lo
  hi : r.hi ≤ s.hi
  sl : r.sl = false → s.sl = false
  wit : r.wit = s.wit ∨ s.wit = .far ne fa ∧ ∃ m, r.wit = .mark m ∧ ne ≤ m ∧ m ≤ fa
theorem Th.Nw.see {ne fa ti ti' : Int} {t u : Th} (h : Th.Nw ne fa t u) (hti : ti' ≤ ti) (hn : 1 ≤ ne) : Sg.Nw ne fa (t.see ti ne fa) (u.see ti' ne fa) := by
  obtain ⟨hx, hy, hz⟩ := h
  refine ⟨by simp only [Th.see]; omega, by simp only [Th.see]; omega, fun hs => ?_, ?_⟩
  · simp only [Th.see, decide_eq_false_iff_not, Int.not_lt, imax_le] at hs ⊢
    omega
  · rcases hz with hz | ⟨h0, h1, h2⟩
    · left; simp [Th.see, Th.wit, hz]
    · right
      refine ⟨by simp [Th.see, Th.wit, h0], u.z, ?_, h1, h2⟩
      have : u.z ≠ 0 := by omega
      simp [Th.see, Th.wit, this]
theorem Sg.Nw.st {ne fa : Int} {s r : Sg} (h : Sg.Nw ne fa s r) : s.st.1 ≤ r.st.1 ∧ r.st.2 ≤ s.st.2 ∧ 0 ≤ s.st.1 := by
  have a := h.lo
  have b := h.hi
  rw [s.st_eq, r.st_eq]
  simp only
  refine ⟨?_, ?_, ?_⟩
  · split <;> split <;> omega
  · split <;> split <;> omega
  · split <;> omega
theorem Sg.st2 {s : Sg} (h : 0 ≤ s.hi) : 0 ≤ s.st.2 := by rw [s.st_eq]; simp only; split <;> omega
/-- A power with which it stands still that is known better is one with which it stands still. -/
theorem Sg.Nw.pw {ne fa : Int} {s r : Sg} (h : Sg.Nw ne fa s r) (hn : 0 ≤ ne) (_hf : 0 ≤ fa) (hs : s.wit.ok) (hr : 0 ≤ r.hi) : s.pw.1 ≤ r.pw.1 ∧ r.pw.2 ≤ s.pw.2 := by
  obtain ⟨a1, a2, a3⟩ := h.st
  have a4 := r.st2 hr
  unfold Sg.pw
  rcases h.wit with hw | ⟨hw, m, hm, h1, h2⟩
  · rw [hw]
    cases hsw : s.wit with
    | mark m =>
      rw [hsw] at hs
      have hm := hs.1
      simp only [Wit.powers]
      have := Int.mul_le_mul_of_nonneg_right a1 hm
      have := Int.mul_le_mul_of_nonneg_right (show r.st.2 + 1 ≤ s.st.2 + 1 by omega) hm
      omega
    | far n f =>
      rw [hsw] at hs
      obtain ⟨hn, -, hf, -⟩ := hs
      simp only [Wit.powers]
      have := Int.mul_le_mul_of_nonneg_right a1 hn
      have := Int.mul_le_mul_of_nonneg_right (show r.st.2 + 1 ≤ s.st.2 + 1 by omega) hf
      omega
  · rw [hw, hm]
    simp only [Wit.powers]
    have := Int.mul_le_mul a1 h1 hn (by omega)
    have := Int.mul_le_mul (show r.st.2 + 1 ≤ s.st.2 + 1 by omega) h2 (by omega) (by omega)
    omega
theorem Sg.Nw.why {ne fa : Int} {s r : Sg} (h : Sg.Nw ne fa s r) (hn : 0 ≤ ne) (hf : 0 ≤ fa) (hs : s.wit.ok) {P Q P' Q' : Int} (hP : P ≤ P') (hQ : Q' ≤ Q) (hw : r.why P' Q' = 0) : s.why P Q = 0 := by
  obtain ⟨b1, b2, b3, b4, b5⟩ := Sg.why_zero hw
  obtain ⟨c1, c2⟩ := h.pw hn hf hs b2
  have := h.lo
  have := h.hi
  refine Sg.why5 (by simp [h.sl b1]) (by omega) ?_ (by omega)
  unfold Sg.tooNear
  simp only [Bool.or_eq_true, decide_eq_true_eq]
  omega
theorem Pr.Nw.at {p q : Pr} (h : p.Nw q) {i : Nat} {t u : Th} (ht : p.l[i]? = some t) (hu : q.l[i]? = some u) (hp : p.ok = true) : Sg.Nw p.ne p.fa (t.see p.ti p.ne p.fa) (u.see q.ti q.ne q.fa) := by
  rw [h.ne, h.fa]
  exact (h.l i t u ht hu).see h.ti (by have := (p.bounds hp).ne0; omega)
theorem Pr.Nw.other {p q : Pr} (h : p.Nw q) {i : Nat} {t : Th} (ht : p.l[i]? = some t) : ∃ u, q.l[i]? = some u :=
  ⟨q.l[i]'(by rw [h.len]; exact (List.getElem?_eq_some_iff.1 ht).1), List.getElem?_eq_getElem _⟩
theorem Pr.Nw.back {p q : Pr} (h : p.Nw q) {i : Nat} {u : Th} (hu : q.l[i]? = some u) : ∃ t, p.l[i]? = some t :=
  ⟨p.l[i]'(by rw [← h.len]; exact (List.getElem?_eq_some_iff.1 hu).1), List.getElem?_eq_getElem _⟩
theorem Pr.nf {p : Pr} (h : p.ok = true) : 0 ≤ p.ne ∧ 0 ≤ p.fa := by
  have := (valid_iff ..).1 h
  omega
theorem Pr.wit_ok {p : Pr} (h : p.ok = true) {t : Th} (ht : t ∈ p.l) : (t.see p.ti p.ne p.fa).wit.ok := ((p.bounds h).see ht).1
/-- A power of which more is known is one. -/
theorem Pr.Nw.power {p q : Pr} (h : p.Nw q) (hp : p.ok = true) (hq : q.ok = true) (hne : q.pw.1 ≤ q.pw.2) : p.pw.1 ≤ q.pw.1 ∧ q.pw.2 ≤ p.pw.2 := by
  obtain ⟨n0, f0⟩ := p.nf hp
  have hv := (valid_iff ..).1 hp
  have hv' := (valid_iff ..).1 hq
  have key : ∀ x, q.pw.1 ≤ x → x ≤ q.pw.2 → ∀ t ∈ p.l, t.m = true → (t.see p.ti p.ne p.fa).spw.1 ≤ x ∧ x ≤ (t.see p.ti p.ne p.fa).spw.2 := fun x h1 h2 t ht hm => by
    obtain ⟨i, hi⟩ := List.getElem?_of_mem ht
    obtain ⟨u, hu⟩ := h.other hi
    have hz := t.m_iff.1 hm
    have huz : u.z ≠ 0 := by rcases (h.l i t u hi hu).z with e | e <;> omega
    have hs := q.mark_stands hq hne (List.mem_of_getElem? hu) huz h1 h2
    exact Sg.stands_spw ((h.at hi hu hp).why n0 f0 (p.wit_ok hp ht) (Int.le_refl _) (Int.le_refl _) hs)
  constructor
  · refine (p.pw1 _).2 ⟨?_, fun t ht hm => (key _ (Int.le_refl _) hne t ht hm).1⟩
    have a := ((q.pw1 _).1 (Int.le_refl _)).1
    have := Int.mul_le_mul h.f.1 h.b.1 (by omega) (by omega)
    omega
  · refine (p.pw2 _).2 ⟨?_, fun t ht hm => (key _ hne (Int.le_refl _) t ht hm).2⟩
    have a := ((q.pw2 _).1 (Int.le_refl _)).1
    have := Int.mul_le_mul h.f.2 h.b.2 (by omega) (by omega)
    omega
/-- As few things moved as if more is known, or fewer. -/
theorem Pr.Nw.fewest {p q : Pr} (h : p.Nw q) (hp : p.ok = true) (hq : q.ok = true) (hne : q.pw.1 ≤ q.pw.2) : ∃ (b c : Nat) (u v u' v' : Int), b < 4096 ∧ c < 4096 ∧ p.fewest = ((b : Int), u, v, 0) ∧ q.fewest = ((c : Int), u', v', 0) ∧ cnt b ≤ cnt c := by
  obtain ⟨n0, f0⟩ := p.nf hp
  obtain ⟨w1, w2⟩ := h.power hp hq hne
  have hpn : p.pw.1 ≤ p.pw.2 := by omega
  obtain ⟨b, hb, hf, -, hmin, -⟩ := p.fewest_full hp hpn
  obtain ⟨c, hc, hg, hce, -, hown⟩ := q.fewest_full hq hne
  have h12 := (p.bounds hp).len
  have hlen := h.len
  have hN := Nat.pow_le_pow_right (n := 2) (by omega) h12
  have e12 : (2 : Nat) ^ 12 = 4096 := rfl
  refine ⟨b, c, _, _, _, _, by omega, by rw [hlen] at hc; omega, hf, hg, ?_⟩
  have hx := (q.rwith_iff hq hne c _).1 ⟨Int.le_refl _, hce⟩
  have hmv := hown _ (Int.le_refl _) hce
  generalize (q.rwith c).1 = x at *
  have hsub : Sub (mv p.seen x) (mv q.seen x) := fun j hj => by
    obtain ⟨s, hs, hw⟩ := (mv_bit _ _ _).1 hj
    obtain ⟨t, ht, rfl⟩ := Pr.seen_at.1 hs
    obtain ⟨u, hu⟩ := h.other ht
    exact (mv_bit _ _ _).2 ⟨_, Pr.seen_at.2 ⟨u, hu, rfl⟩, fun e => hw ((h.at ht hu hp).why n0 f0 (p.wit_ok hp (List.mem_of_getElem? ht)) (Int.le_refl _) (Int.le_refl _) e)⟩
  have hin := (p.rwith_iff hp hpn (mv p.seen x) x).2 ⟨by omega, by omega, fun _ hj => hj⟩
  have h1 := hmin (mv p.seen x) (by omega)
  rw [hmv] at hsub
  have h2 := hsub.cnt
  unfold Nle at h1
  omega
theorem div_more {a b c d : Int} (h1 : a ≤ b) (h2 : 0 ≤ a) (h3 : 0 < d) (h4 : d ≤ c) : a / c ≤ b / d := by
  have e1 : a / c ≤ a / d := by
    have hc : 0 < c := by omega
    refine Int.le_ediv_of_mul_le h3 ?_
    have := Int.ediv_mul_le a (show c ≠ 0 by omega)
    have h0 : 0 ≤ a / c := Int.ediv_nonneg h2 (by omega)
    have := Int.mul_le_mul_of_nonneg_left h4 h0
    omega
  have := Int.ediv_le_ediv h3 h1
  omega
/-- A distance of which more is known is one. -/
theorem Sg.Nw.dists {ne fa : Int} {s r : Sg} (h : Sg.Nw ne fa s r) (_hn : 0 ≤ ne) (_hf : 0 ≤ fa) (_hs : s.wit.ok) {P Q P' Q' : Int} (hP0 : 0 ≤ P) (hQ0 : 0 ≤ Q') (hP : P ≤ P') (hQ : Q' ≤ Q) (hm : ∀ m, r.wit = .mark m → r.why P' P' = 0 ∧ P' ≤ Q' ∧ 0 < m) (hw : r.why P' Q' = 0) :
    (s.dists P Q).1 ≤ (r.dists P' Q').1 ∧ (r.dists P' Q').2 ≤ (s.dists P Q).2 := by
  obtain ⟨a1, a2, a3⟩ := h.st
  obtain ⟨b1, b2, b3, b4, b5⟩ := Sg.why_zero hw
  have a4 := r.st2 b2
  rcases h.wit with e | ⟨e, m, em, h1, h2⟩
  · cases hsw : s.wit with
    | mark m => rw [Sg.dists_mark hsw, Sg.dists_mark (e.trans hsw)]; exact ⟨Int.le_refl _, Int.le_refl _⟩
    | far n f =>
      rw [Sg.dists_far hsw, Sg.dists_far (e.trans hsw)]
      have k1 := div_more hP hP0 (show 0 < r.st.2 + 1 by omega) (show r.st.2 + 1 ≤ s.st.2 + 1 by omega)
      unfold dist ovl
      simp only
      constructor
      · split <;> split <;> omega
      · by_cases c1 : 0 < s.st.1
        · have k2 := div_more hQ hQ0 c1 a1
          rw [if_pos c1, if_pos (show 0 < r.st.1 by omega)]
          split <;> split <;> omega
        · rw [if_neg c1]
          split <;> split <;> omega
  · obtain ⟨g0, g1, g2⟩ := hm m em
    obtain ⟨-, -, -, c4, c5⟩ := Sg.why_zero g0
    have hpw : r.pw = (r.st.1 * m, (r.st.2 + 1) * m - 1) := by unfold Sg.pw; rw [em]; rfl
    rw [hpw] at c4 c5
    simp only at c4 c5
    rw [Sg.dists_far e, Sg.dists_mark em]
    have k1 : P / (s.st.2 + 1) < m := by
      refine Int.ediv_lt_of_lt_mul (by omega) ?_
      have := Int.mul_le_mul_of_nonneg_left (show r.st.2 + 1 ≤ s.st.2 + 1 by omega) (show 0 ≤ m by omega)
      have e1 := Int.mul_comm (r.st.2 + 1) m
      omega
    unfold dist ovl
    simp only
    constructor
    · split <;> omega
    · by_cases d1 : 0 < s.st.1
      · have k2 : m ≤ Q / s.st.1 := by
          refine Int.le_ediv_of_mul_le d1 ?_
          have := Int.mul_le_mul_of_nonneg_right a1 (show 0 ≤ m by omega)
          have e1 := Int.mul_comm m s.st.1
          omega
        rw [if_pos d1]
        split <;> omega
      · rw [if_neg d1]
        split <;> omega
/-- All that the law of knowing more asks of a pair that has a truth still. -/
theorem Pr.Nw.laws {p q : Pr} (h : p.Nw q) (hp : p.ok = true) (hq : q.ok = true) {n : Nat} (hn : n < p.l.length) :
    ∃ (a b a' b' : Int), p.shift n = (a, b, 0) ∧ q.shift n = (a', b', 0) ∧ a ≤ a' ∧ b' ≤ b ∧
      ((q.pw.1 ≤ q.pw.2 ∧ ∃ (P Q P' Q' y y' : Int) (B C : Nat) (u v u' v' : Int), p.power = (P, Q, 0) ∧ q.power = (P', Q', 0) ∧ P ≤ P' ∧ Q' ≤ Q ∧ p.why n = (y, 0) ∧ q.why n = (y', 0) ∧ (y ≠ 0 → y' ≠ 0) ∧
          (((∃ d d' : Int, q.distance n = (d, d', 0) ∧ ∃ c c' : Int, p.distance n = (c, c', 0) ∧ c ≤ d ∧ d' ≤ c') ∨ (q.distance n = (0, 0, 11) ∧ ∃ c c' e : Int, p.distance n = (c, c', e)))) ∧
          B < 4096 ∧ C < 4096 ∧ p.fewest = ((B : Int), u, v, 0) ∧ q.fewest = ((C : Int), u', v', 0) ∧ cnt B ≤ cnt C) ∨
       (¬ q.pw.1 ≤ q.pw.2 ∧ q.power = (0, 0, 4))) := by
  obtain ⟨n0, f0⟩ := p.nf hp
  have ht : p.l[n]? = some p.l[n] := List.getElem?_eq_getElem hn
  obtain ⟨u, hu⟩ := h.other ht
  generalize p.l[n] = t at *
  have hs := h.at ht hu hp
  have hat : p.at (n : Int) = some (t.see p.ti p.ne p.fa) := by
    unfold Pr.at
    rw [if_pos (Int.natCast_nonneg _), Int.toNat_natCast]
    exact Pr.seen_at.2 ⟨t, ht, rfl⟩
  have hau : q.at (n : Int) = some (u.see q.ti q.ne q.fa) := by
    unfold Pr.at
    rw [if_pos (Int.natCast_nonneg _), Int.toNat_natCast]
    exact Pr.seen_at.2 ⟨u, hu, rfl⟩
  refine ⟨_, _, _, _, by unfold Pr.shift; rw [if_pos hp, hat], by unfold Pr.shift; rw [if_pos hq, hau], hs.lo, hs.hi, ?_⟩
  by_cases hne : q.pw.1 ≤ q.pw.2
  · obtain ⟨w1, w2⟩ := h.power hp hq hne
    have hpn : p.pw.1 ≤ p.pw.2 := by omega
    obtain ⟨B, C, x, y, x', y', hB, hC, hf, hg, hcnt⟩ := h.fewest hp hq hne
    have hwo := p.wit_ok hp (List.mem_of_getElem? ht)
    refine .inl ⟨hne, _, _, _, _, _, _, B, C, x, y, x', y', by unfold Pr.power; rw [if_pos hp, if_pos hpn], by unfold Pr.power; rw [if_pos hq, if_pos hne], w1, w2, by unfold Pr.why; rw [if_pos hp, hat]; simp only; rw [if_pos hpn], by unfold Pr.why; rw [if_pos hq, hau]; simp only; rw [if_pos hne], fun c d => c (hs.why n0 f0 hwo w1 w2 d), ?_, hB, hC, hf, hg, hcnt⟩
    by_cases hw : (u.see q.ti q.ne q.fa).why q.pw.1 q.pw.2 = 0
    · have hw' := hs.why n0 f0 hwo w1 w2 hw
      refine .inl ⟨_, _, by unfold Pr.distance; rw [if_pos hq, hau]; simp only; rw [if_pos hne, if_pos hw], _, _, by unfold Pr.distance; rw [if_pos hp, hat]; simp only; rw [if_pos hpn, if_pos hw'], ?_⟩
      have hin := p.pw_in hp
      have hin' := q.pw_in hq
      refine hs.dists n0 f0 hwo (by omega) (by omega) w1 w2 (fun m em => ?_) hw
      have hz : u.z ≠ 0 := by
        intro c
        rw [show (u.see q.ti q.ne q.fa).wit = .far q.ne q.fa from by simp [Th.see, Th.wit, c]] at em
        cases em
      refine ⟨q.mark_stands hq hne (List.mem_of_getElem? hu) hz (Int.le_refl _) hne, hne, ?_⟩
      obtain ⟨mw, -, -, -, -, -, m7, -⟩ := q.mark hq hne (List.mem_of_getElem? hu) hz
      rw [mw] at em
      cases em
      omega
    · exact .inr ⟨by unfold Pr.distance; rw [if_pos hq, hau]; simp only; rw [if_pos hne, if_neg hw], _, _, _, rfl⟩
  · exact .inr ⟨hne, by unfold Pr.power; rw [if_pos hq, if_neg hne]⟩
/-- A span that is no wider, by a remainder. -/
def nwLo (a b k : Int) : Int := imin b (a + k % 3)
def nwHi (a b k : Int) : Int := imax (nwLo a b k) (b - k / 3 % 3)
theorem nw_in {a b k : Int} (h : a ≤ b) (_hk : 0 ≤ k) : a ≤ nwLo a b k ∧ nwLo a b k ≤ nwHi a b k ∧ nwHi a b k ≤ b := by
  unfold nwHi nwLo imin imax
  split <;> split <;> omega
set_option maxHeartbeats 1600000 in
theorem lnarrow_any (a b k : Int) (w : World) (h0 : -100000 ≤ a) (h1 : a ≤ 100000) (h2 : -100000 ≤ b) (h3 : b ≤ 100000) (hk : 0 ≤ k) (hk2 : k ≤ 1000) :
    Calls Try.prog 36 #[.agg #[.int .i64 a, .int .i64 b], .int .i64 k] w fun e w' => e = .returned (.agg #[.int .i64 (nwLo a b k), .int .i64 (nwHi a b k)]) ∧ Below w.heap.size w w' := by
  have hal := @cal
  by_cases h : a + k % 3 < b
  · by_cases h' : a + k % 3 < b - k / 3 % 3
    all_goals
      simp only [nwHi, nwLo, imin, imax, h, h', if_true, if_false]
      go_enter Try.func36, Try.ntmps36
      go_wp2_with (go_at_call 28; refine (lspan_any _ _ _).mono ?_; rintro e w1 ⟨rfl, hb1⟩; obtain ⟨hc1, hf1, hz1⟩ := bcell hb1)
    · exact bodyPost_ret (v := .agg #[.int .i64 (a + k % 3), .int .i64 (b - k / 3 % 3)]) (by simp [results, Try.results36, go_sem, hc1]) rfl ⟨rfl, (((bgr (((Below.refl _ _).alloc (by first | (simp; done) | (simp; omega) | omega) _).alloc (by first | (simp; done) | (simp; omega) | omega) _) (by first | (simp; done) | (simp; omega) | omega) hb1).setCell (by first | (simp; done) | (simp; omega) | omega) _).setCell (by first | (simp; done) | (simp; omega) | omega) _)⟩
    · exact bodyPost_ret (v := .agg #[.int .i64 (a + k % 3), .int .i64 (a + k % 3)]) (by simp [results, Try.results36, go_sem, hc1]) rfl ⟨rfl, (((bgr (((Below.refl _ _).alloc (by first | (simp; done) | (simp; omega) | omega) _).alloc (by first | (simp; done) | (simp; omega) | omega) _) (by first | (simp; done) | (simp; omega) | omega) hb1).setCell (by first | (simp; done) | (simp; omega) | omega) _).setCell (by first | (simp; done) | (simp; omega) | omega) _)⟩
  · have h' : ¬ b < b - k / 3 % 3 := by omega
    simp only [nwHi, nwLo, imin, imax, h, h', if_false]
    go_enter Try.func36, Try.ntmps36
    go_wp2_with (go_at_call 28; refine (lspan_any _ _ _).mono ?_; rintro e w1 ⟨rfl, hb1⟩; obtain ⟨hc1, hf1, hz1⟩ := bcell hb1)
    exact bodyPost_ret (v := .agg #[.int .i64 b, .int .i64 b]) (by simp [results, Try.results36, go_sem, hc1]) rfl ⟨rfl, (((bgr (((Below.refl _ _).alloc (by first | (simp; done) | (simp; omega) | omega) _).alloc (by first | (simp; done) | (simp; omega) | omega) _) (by first | (simp; done) | (simp; omega) | omega) hb1).setCell (by first | (simp; done) | (simp; omega) | omega) _).setCell (by first | (simp; done) | (simp; omega) | omega) _)⟩
set_option maxHeartbeats 1600000 in
/-- Is a span within another one? -/
theorem lwithin_any (a b c d : Int) (r : Bool) (hr : (decide (c ≤ a) && decide (b ≤ d)) = r) (w : World) :
    Calls Try.prog 37 #[.agg #[.int .i64 a, .int .i64 b], .agg #[.int .i64 c, .int .i64 d]] w fun e w' => e = .returned (.bool r) ∧ Below w.heap.size w w' := by
  have hal := @cal
  subst hr
  cases h1 : decide (c ≤ a) with
  | true =>
    go_enter Try.func37, Try.ntmps37
    go_wp2_with fail
    go_ret
    exact ⟨rfl, (((Below.refl _ _).alloc (by first | (simp; done) | (simp; omega) | omega) _).alloc (by first | (simp; done) | (simp; omega) | omega) _)⟩
  | false =>
    go_enter Try.func37, Try.ntmps37
    go_wp2_with fail
    go_ret
    exact ⟨rfl, (((Below.refl _ _).alloc (by first | (simp; done) | (simp; omega) | omega) _).alloc (by first | (simp; done) | (simp; omega) | omega) _)⟩
theorem Pr.Nw.same (p : Pr) : ∀ (i : Nat) (t u : Th), p.l[i]? = some t → p.l[i]? = some u → Th.Nw p.ne p.fa t u := fun i t u h1 h2 => by
  rw [h1] at h2; cases h2; exact Th.Nw.refl _ _ _
theorem Pr.Nw.refl (p : Pr) : p.Nw p := ⟨⟨Int.le_refl _, Int.le_refl _⟩, ⟨Int.le_refl _, Int.le_refl _⟩, Int.le_refl _, rfl, rfl, rfl, Pr.Nw.same p⟩
/-- The pair with narrower spans of its own. -/
theorem nw_pair {p : Pr} (h : p.ok = true) {j k : Int} (hj : 0 ≤ j) (hk : 0 ≤ k) : p.Nw { p with fl := nwLo p.fl p.fh j, fh := nwHi p.fl p.fh j, bl := nwLo p.bl p.bh k, bh := nwHi p.bl p.bh k } ∧
    ({ p with fl := nwLo p.fl p.fh j, fh := nwHi p.fl p.fh j, bl := nwLo p.bl p.bh k, bh := nwHi p.bl p.bh k } : Pr).ok = true := by
  have hv := (valid_iff ..).1 h
  have a := nw_in (a := p.fl) (b := p.fh) (k := j) (by omega) hj
  have b := nw_in (a := p.bl) (b := p.bh) (k := k) (by omega) hk
  refine ⟨⟨⟨a.1, a.2.2⟩, ⟨b.1, b.2.2⟩, Int.le_refl _, rfl, rfl, rfl, Pr.Nw.same p⟩, ?_⟩
  refine (valid_iff ..).2 ⟨?_, hv.2⟩
  have := hv.1
  simp only
  omega
/-- The pair with a lesser Tilt. -/
theorem nw_tilt {p : Pr} (h : p.ok = true) {t : Int} (h0 : 0 ≤ t) (ht : t ≤ p.ti) : p.Nw { p with ti := t } ∧ ({ p with ti := t } : Pr).ok = true := by
  have hv := (valid_iff ..).1 h
  refine ⟨⟨⟨Int.le_refl _, Int.le_refl _⟩, ⟨Int.le_refl _, Int.le_refl _⟩, ht, rfl, rfl, rfl, Pr.Nw.same p⟩, ?_⟩
  refine (valid_iff ..).2 ⟨?_, hv.2⟩
  have := hv.1
  simp only
  omega
/-- The pair with a thing of which more is known. -/
theorem nw_thing {p : Pr} (h : p.ok = true) {m : Nat} {t t' : Th} (ht : p.l[m]? = some t) (hn : Th.Nw p.ne p.fa t t') (ho : t'.a ≤ t'.b ∧ t'.c ≤ t'.d ∧ t'.e ≤ t'.f ∧ t'.g ≤ t'.h) : p.Nw { p with l := p.l.set m t' } ∧ ({ p with l := p.l.set m t' } : Pr).ok = true := by
  have hv := (valid_iff ..).1 h
  refine ⟨⟨⟨Int.le_refl _, Int.le_refl _⟩, ⟨Int.le_refl _, Int.le_refl _⟩, Int.le_refl _, rfl, rfl, by simp, fun i a b h1 h2 => ?_⟩, ?_⟩
  · have h2' : (p.l.set m t')[i]? = some b := h2
    rw [List.getElem?_set] at h2'
    by_cases e : m = i
    · subst e
      rw [if_pos rfl, if_pos (List.getElem?_eq_some_iff.1 ht).1] at h2'
      cases h2'
      rw [ht] at h1; cases h1
      exact hn
    · rw [if_neg e] at h2'
      exact Pr.Nw.same p i a b h1 h2'
  · refine (valid_iff ..).2 ⟨by simpa using hv.1, fun u hu => ?_⟩
    rcases List.mem_or_eq_of_mem_set hu with hu | rfl
    · exact hv.2 u hu
    · have := hv.2 t (List.mem_of_getElem? ht)
      have hne := hv.1
      obtain ⟨x, y, z⟩ := hn
      simp [Th.valid, okSp] at this ⊢
      omega
theorem nw_x {p : Pr} (h : p.ok = true) {m : Nat} {t : Th} (ht : p.l[m]? = some t) {j k : Int} (hj : 0 ≤ j) (hk : 0 ≤ k) : p.Nw { p with l := p.l.set m { t with a := nwLo t.a t.b j, b := nwHi t.a t.b j, e := nwLo t.e t.f k, f := nwHi t.e t.f k } } ∧
    ({ p with l := p.l.set m { t with a := nwLo t.a t.b j, b := nwHi t.a t.b j, e := nwLo t.e t.f k, f := nwHi t.e t.f k } } : Pr).ok = true := by
  have ho := p.order h (List.mem_of_getElem? ht)
  have a := nw_in (a := t.a) (b := t.b) (k := j) ho.1 hj
  have b := nw_in (a := t.e) (b := t.f) (k := k) ho.2.2.1 hk
  exact nw_thing h ht ⟨⟨a.1, a.2.2, b.1, b.2.2⟩, ⟨Int.le_refl _, Int.le_refl _, Int.le_refl _, Int.le_refl _⟩, .inl rfl⟩ ⟨a.2.1, ho.2.1, b.2.1, ho.2.2.2⟩
theorem nw_y {p : Pr} (h : p.ok = true) {m : Nat} {t : Th} (ht : p.l[m]? = some t) {j k : Int} (hj : 0 ≤ j) (hk : 0 ≤ k) : p.Nw { p with l := p.l.set m { t with c := nwLo t.c t.d j, d := nwHi t.c t.d j, g := nwLo t.g t.h k, h := nwHi t.g t.h k } } ∧
    ({ p with l := p.l.set m { t with c := nwLo t.c t.d j, d := nwHi t.c t.d j, g := nwLo t.g t.h k, h := nwHi t.g t.h k } } : Pr).ok = true := by
  have ho := p.order h (List.mem_of_getElem? ht)
  have a := nw_in (a := t.c) (b := t.d) (k := j) ho.2.1 hj
  have b := nw_in (a := t.g) (b := t.h) (k := k) ho.2.2.2 hk
  exact nw_thing h ht ⟨⟨Int.le_refl _, Int.le_refl _, Int.le_refl _, Int.le_refl _⟩, ⟨a.1, a.2.2, b.1, b.2.2⟩, .inl rfl⟩ ⟨ho.1, a.2.1, ho.2.2.1, b.2.1⟩
theorem nw_z {p : Pr} (h : p.ok = true) {m : Nat} {t : Th} (ht : p.l[m]? = some t) (h0 : t.z = 0) {z : Int} (h1 : p.ne ≤ z) (h2 : z ≤ p.fa) : p.Nw { p with l := p.l.set m { t with z := z } } ∧ ({ p with l := p.l.set m { t with z := z } } : Pr).ok = true := by
  have ho := p.order h (List.mem_of_getElem? ht)
  exact nw_thing h ht ⟨⟨Int.le_refl _, Int.le_refl _, Int.le_refl _, Int.le_refl _⟩, ⟨Int.le_refl _, Int.le_refl _, Int.le_refl _, Int.le_refl _⟩, .inr ⟨h0, h1, h2⟩⟩ ho
theorem vals_in {vs : List Value} {n : Nat} {t : Th} (h : ∀ j, j < 9 → vs[n * 9 + j]? = t.vals[j]?) : ∀ (j : Nat) (x : Value), t.vals[j]? = some x → vs[n * 9 + j]? = some x := fun j x hx => by
  have hj : j < 9 := by have := (List.getElem?_eq_some_iff.1 hx).1; simpa [Th.vals] using this
  rw [h j hj]; exact hx
/-- Four cells of a thing in a block, set anew. -/
theorem put_x {vs : List Value} {n : Nat} {t : Th} (h : ∀ (j : Nat) (x : Value), t.vals[j]? = some x → vs[n * 9 + j]? = some x) (a b e f : Int) : ∀ j, j < 9 → ((((vs.set (n * 9) (.int .i64 a)).set (n * 9 + 1) (.int .i64 b)).set (n * 9 + 4) (.int .i64 e)).set (n * 9 + 5) (.int .i64 f))[n * 9 + j]? = ({ t with a := a, b := b, e := e, f := f } : Th).vals[j]? := fun j hj => by
  have hl : n * 9 + 8 < vs.length := (List.getElem?_eq_some_iff.1 (h 8 _ rfl)).1
  have hh := fun j x (hx : t.vals[j]? = some x) => h j x hx
  simp only [List.getElem?_set, List.length_set]
  match j, hj with
  | 0, _ => simp [Th.vals]; omega
  | 1, _ => simp [Th.vals]; omega
  | 2, _ => simp [Th.vals]; exact hh 2 _ rfl
  | 3, _ => simp [Th.vals]; exact hh 3 _ rfl
  | 4, _ => simp [Th.vals]; omega
  | 5, _ => simp [Th.vals]; omega
  | 6, _ => simp [Th.vals]; exact hh 6 _ rfl
  | 7, _ => simp [Th.vals]; exact hh 7 _ rfl
  | 8, _ => simp [Th.vals]; exact hh 8 _ rfl
theorem put_y {vs : List Value} {n : Nat} {t : Th} (h : ∀ (j : Nat) (x : Value), t.vals[j]? = some x → vs[n * 9 + j]? = some x) (a b e f : Int) : ∀ j, j < 9 → ((((vs.set (n * 9 + 2) (.int .i64 a)).set (n * 9 + 3) (.int .i64 b)).set (n * 9 + 6) (.int .i64 e)).set (n * 9 + 7) (.int .i64 f))[n * 9 + j]? = ({ t with c := a, d := b, g := e, h := f } : Th).vals[j]? := fun j hj => by
  have hl : n * 9 + 8 < vs.length := (List.getElem?_eq_some_iff.1 (h 8 _ rfl)).1
  have hh := fun j x (hx : t.vals[j]? = some x) => h j x hx
  simp only [List.getElem?_set, List.length_set]
  match j, hj with
  | 0, _ => simp [Th.vals]; exact hh 0 _ rfl
  | 1, _ => simp [Th.vals]; exact hh 1 _ rfl
  | 2, _ => simp [Th.vals]; omega
  | 3, _ => simp [Th.vals]; omega
  | 4, _ => simp [Th.vals]; exact hh 4 _ rfl
  | 5, _ => simp [Th.vals]; exact hh 5 _ rfl
  | 6, _ => simp [Th.vals]; omega
  | 7, _ => simp [Th.vals]; omega
  | 8, _ => simp [Th.vals]; exact hh 8 _ rfl
theorem put_z {vs : List Value} {n : Nat} {t : Th} (h : ∀ (j : Nat) (x : Value), t.vals[j]? = some x → vs[n * 9 + j]? = some x) (z : Int) : ∀ j, j < 9 → (vs.set (n * 9 + 8) (.int .i64 z))[n * 9 + j]? = ({ t with z := z } : Th).vals[j]? := fun j hj => by
  have hl : n * 9 + 8 < vs.length := (List.getElem?_eq_some_iff.1 (h 8 _ rfl)).1
  have hh := fun j x (hx : t.vals[j]? = some x) => h j x hx
  simp only [List.getElem?_set]
  match j, hj with
  | 0, _ => simp [Th.vals]; exact hh 0 _ rfl
  | 1, _ => simp [Th.vals]; exact hh 1 _ rfl
  | 2, _ => simp [Th.vals]; exact hh 2 _ rfl
  | 3, _ => simp [Th.vals]; exact hh 3 _ rfl
  | 4, _ => simp [Th.vals]; exact hh 4 _ rfl
  | 5, _ => simp [Th.vals]; exact hh 5 _ rfl
  | 6, _ => simp [Th.vals]; exact hh 6 _ rfl
  | 7, _ => simp [Th.vals]; exact hh 7 _ rfl
  | 8, _ => simp [Th.vals]; omega
theorem things_box {l : List Th} {len : Nat} (hlen : l.length = len) {w : World} {b : Nat} {vs : List Value} {T : TypeId} {cap : Nat} (h : Box w b vs T) (hl : len ≤ 1000) (hv : ∀ (i : Nat) (t : Th) (j : Nat) (x : Value), l[i]? = some t → t.vals[j]? = some x → vs[i * 9 + j]? = some x) : ThingsAt l (.slice (some ⟨b, 0, none⟩) len cap) w := by
  subst hlen
  exact ThingsAt.boxp h hl hv
/-- A list's things in a block, of which one is changed. -/
theorem things_put {l : List Th} {vs vs' : List Value} {n : Nat} {t' : Th} (h : ∀ (i : Nat) (t : Th) (j : Nat) (x : Value), l[i]? = some t → t.vals[j]? = some x → vs[i * 9 + j]? = some x) (hn : n < l.length) (hin : ∀ (j : Nat) (x : Value), t'.vals[j]? = some x → vs'[n * 9 + j]? = some x)
    (hout : ∀ k, k < n * 9 ∨ n * 9 + 9 ≤ k → vs'[k]? = vs[k]?) : ∀ (i : Nat) (u : Th) (j : Nat) (x : Value), (l.set n t')[i]? = some u → u.vals[j]? = some x → vs'[i * 9 + j]? = some x := by
  intro i u j x hi hx
  have hj : j < 9 := by have := (List.getElem?_eq_some_iff.1 hx).1; simpa [Th.vals] using this
  rw [List.getElem?_set] at hi
  by_cases e : n = i
  · subst e
    rw [if_pos rfl, if_pos hn] at hi
    cases hi
    exact hin j x hx
  · rw [if_neg e] at hi
    rw [hout _ (by omega)]
    exact h i u j x hi hx
set_option maxRecDepth 100000 in
set_option maxHeartbeats 4000000 in
theorem lmore_many (p : Pr) (sp : Option Addr) (len cap : Nat) (n far k : Int) (w : World) (hl : 40 < len) :
    Calls Try.prog 10 #[.agg #[.int .i64 p.fl, .int .i64 p.fh, .int .i64 p.bl, .int .i64 p.bh, .int .i64 p.ti, .int .i64 p.ne, .int .i64 p.fa, .slice sp len cap], .int .i64 n, .int .i64 far, .int .u8 k] w fun e w' => e = .returned (.bool true) ∧ Below w.heap.size w w' := by
  have d : decide (40 < (len : Int)) = true := by simp; omega
  have d' : decide (40 < len) = true := by simp; omega
  clear hl
  go_enter Try.func10, Try.ntmps10
  go_wp2_with fail
  refine (awake_any _).mono ?_
  rintro e w2 ⟨rfl, hb2⟩
  go_wp2
  go_ret
  exact ⟨rfl, (bgr ((Below.refl _ _).alloc (by first | (simp; done) | (simp; omega) | omega) _) (by first | (simp; done) | (simp; omega) | omega) hb2)⟩
set_option maxRecDepth 100000 in
set_option maxHeartbeats 4000000 in
theorem lmore_bad (p : Pr) (sp : Option Addr) (len cap : Nat) (n far k : Int) (w : World) (hl : len ≤ 40) (hT : ThingsAt p.l (.slice sp len cap) w) (h4 : Hid (p.ok = false)) :
    Calls Try.prog 10 #[.agg #[.int .i64 p.fl, .int .i64 p.fh, .int .i64 p.bl, .int .i64 p.bh, .int .i64 p.ti, .int .i64 p.ne, .int .i64 p.fa, .slice sp len cap], .int .i64 n, .int .i64 far, .int .u8 k] w fun e w' => e = .returned (.bool true) ∧ Below w.heap.size w w' := by
  have d : decide (40 < (len : Int)) = false := by simp; omega
  have d' : decide (40 < len) = false := by simp; omega
  have HT := Lib.hid hT
  clear hl hT
  go_enter Try.func10, Try.ntmps10
  go_wp2_with fail
  refine (rpair_is h4.out (ThingsAt.lasts p.l _ _ _ HT.out (Gr.alloc _ _))).mono ?_
  rintro e w1 ⟨rfl, hb1⟩
  have hg1 : Gr _ _ := hb1
  obtain ⟨hc, hf, hz⟩ := bcell hg1
  have hs1 : w.heap.size < w1.heap.size := hz _ (by simp)
  go_wp2_with fail
  refine (awake_any _).mono ?_
  rintro e w2 ⟨rfl, hb2⟩
  go_wp2
  go_ret
  exact ⟨rfl, bgr (bgr ((Below.refl _ _).alloc (Nat.le_refl _) _) (by first | (simp; done) | (simp; omega) | omega) hg1) (by first | (simp; done) | (simp; omega) | omega) hb2⟩
set_option maxRecDepth 100000 in
set_option maxHeartbeats 4000000 in
theorem lmore_no (p : Pr) (sp : Option Addr) (len cap : Nat) (n far k : Int) (w : World) (hl : len ≤ 40) (hT : ThingsAt p.l (.slice sp len cap) w) (h4 : Hid (p.ok = true)) (hn : n < 0 ∨ (len : Int) ≤ n) :
    Calls Try.prog 10 #[.agg #[.int .i64 p.fl, .int .i64 p.fh, .int .i64 p.bl, .int .i64 p.bh, .int .i64 p.ti, .int .i64 p.ne, .int .i64 p.fa, .slice sp len cap], .int .i64 n, .int .i64 far, .int .u8 k] w fun e w' => e = .returned (.bool true) ∧ Below w.heap.size w w' := by
  have d : decide (40 < (len : Int)) = false := by simp; omega
  have d' : decide (40 < len) = false := by simp; omega
  have HT := Lib.hid hT
  have hx : (len = 0 ∨ ¬ len = 0) := Classical.em _
  clear hl hT
  rcases hx with hx | hx
  · subst hx
    go_enter Try.func10, Try.ntmps10
    go_wp2_with fail
    refine (rpair_is h4.out (ThingsAt.lasts p.l _ _ _ HT.out (Gr.alloc _ _))).mono ?_
    rintro e w1 ⟨rfl, hb1⟩
    have hg1 : Gr _ _ := hb1
    obtain ⟨hc, hf, hz⟩ := bcell hg1
    have hs1 : w.heap.size < w1.heap.size := hz _ (by simp)
    go_wp2_with fail
    refine (awake_any _).mono ?_
    rintro e w2 ⟨rfl, hb2⟩
    go_wp2
    go_ret
    exact ⟨rfl, bgr (bgr ((Below.refl _ _).alloc (Nat.le_refl _) _) (by first | (simp; done) | (simp; omega) | omega) hg1) (by first | (simp; done) | (simp; omega) | omega) hb2⟩
  · have x1 : ((len : Int) == 0) = false := by simp; omega
    have x2 : (len == 0) = false := by simp; omega
    rcases hn with hn | hn
    · have x3 : decide (n < 0) = true := decide_eq_true hn
      go_enter Try.func10, Try.ntmps10
      go_wp2_with fail
      refine (rpair_is h4.out (ThingsAt.lasts p.l _ _ _ HT.out (Gr.alloc _ _))).mono ?_
      rintro e w1 ⟨rfl, hb1⟩
      have hg1 : Gr _ _ := hb1
      obtain ⟨hc, hf, hz⟩ := bcell hg1
      have hs1 : w.heap.size < w1.heap.size := hz _ (by simp)
      go_wp2_with fail
      refine (awake_any _).mono ?_
      rintro e w2 ⟨rfl, hb2⟩
      go_wp2
      go_ret
      exact ⟨rfl, bgr (bgr ((Below.refl _ _).alloc (Nat.le_refl _) _) (by first | (simp; done) | (simp; omega) | omega) hg1) (by first | (simp; done) | (simp; omega) | omega) hb2⟩
    · have x3 : decide (n < 0) = false := by simp; omega
      have x4 : decide ((len : Int) ≤ n) = true := decide_eq_true hn
      go_enter Try.func10, Try.ntmps10
      go_wp2_with fail
      refine (rpair_is h4.out (ThingsAt.lasts p.l _ _ _ HT.out (Gr.alloc _ _))).mono ?_
      rintro e w1 ⟨rfl, hb1⟩
      have hg1 : Gr _ _ := hb1
      obtain ⟨hc, hf, hz⟩ := bcell hg1
      have hs1 : w.heap.size < w1.heap.size := hz _ (by simp)
      go_wp2_with fail
      refine (awake_any _).mono ?_
      rintro e w2 ⟨rfl, hb2⟩
      go_wp2
      go_ret
      exact ⟨rfl, bgr (bgr ((Below.refl _ _).alloc (Nat.le_refl _) _) (by first | (simp; done) | (simp; omega) | omega) hg1) (by first | (simp; done) | (simp; omega) | omega) hb2⟩
def Code.snd' : Code → Code
  | .seq _ b => b
  | c => c
set_option maxRecDepth 100000 in
set_option maxHeartbeats 4000000 in
theorem lmore_rest (p q : Pr) (sp sq : Option Addr) (len cap cq n bp bx : Nat) (w wc : World) (hT : Hid (∀ W : World, Gr wc W → ThingsAt p.l (.slice sp len cap) W)) (hqt : ThingsAt q.l (.slice sq len cq) wc) (hpx : Box wc bp [.int .i64 p.fl, .int .i64 p.fh, .int .i64 p.bl, .int .i64 p.bh, .int .i64 p.ti, .int .i64 p.ne, .int .i64 p.fa, .slice sp len cap] 26) (hbx : Box wc bx [.int .i64 q.fl, .int .i64 q.fh, .int .i64 q.bl, .int .i64 q.bh, .int .i64 q.ti, .int .i64 q.ne, .int .i64 q.fa, .slice sq len cq] 26) (hnw : p.Nw q) (hpk : p.ok = true) (hqk : q.ok = true) (hn : n < p.l.length) (HGC : Hid (Below w.heap.size w wc)) (s0 s2 s3 s5 s6 s7 s10 s11 s12 s13 s14 s15 s16 s17 s18 s19 s20 s21 s22 s23 s24 s25 s26 s27 s28 s29 s30 s31 s32 s33 s34 s35 s36 s37 s38 s39 s40 s41 s42 s43 s44 s45 s46 s47 s48 s49 s50 s51 s52 s53 s54 s55 s56 s57 s58 s59 s60 s61 s62 s63 s64 s65 s66 s67 s68 s69 s70 s71 s72 s73 s74 s75 s76 s77 s78 s79 s80 s81 s82 s83 s84 s85 s86 s87 s88 s89 s90 s91 s92 s93 s94 s95 s96 s97 s98 s99 s100 s101 s102 s103 s104 s105 s106 s107 s108 s109 s110 s111 s112 s113 s114 s115 s116 s117 s118 s119 s120 s121 s122 s123 s124 s125 s126 s127 s128 s129 s130 s131 s132 s133 s134 s135 s136 s137 s138 s139 s140 s141 s142 s143 s144 s145 s146 s147 s148 s149 s150 s151 s152 s153 s154 s155 s156 s157 s158 s159 s160 s161 s162 s163 s164 s165 s166 s167 s168 s169 s170 s171 s172 s173 s174 s175 s176 s177 s178 s179 s180 s181 s182 s183 s184 s185 s186 s187 s188 s189 s190 s191 s192 s193 s194 s195 s196 s197 s198 s199 s200 s201 s202 s203 s204 s205 s206 s207 s208 s209 s210 s211 s212 s213 s214 s215 s216 s217 s218 s219 s220 s221 s222 s223 s224 s225 s226 s227 s228 s229 s230 s231 s232 s233 s234 s235 s236 s237 s238 s239 s240 s241 s242 s243 s244 s245 s246 s247 s248 s249 s250 s251 s252 s253 s254 s255 s256 s257 s258 s259 s260 s261 s262 s263 s264 s265 s266 s267 s268 s269 s270 s271 s272 s273 s274 s275 s276 s277 s278 s279 s280 s281 s282 s283 s284 s285 s286 s287 s288 s289 s290 s291 s292 s293 s294 s295 s296 s297 s298 s299 s300 s301 s302 s303 s304 s305 s306 s307 s308 s309 s310 s311 s312 s313 s314 s315 s316 s317 s318 s319 s320 s321 s322 s323 s324 s325 : Value) :
    (Code.snd' (Code.snd' (Code.snd' (Code.snd' (Code.snd' (Code.snd' (Try.f10.body.getD .skip))))))).wp Try.prog (bodyPost Try.prog Try.f10 fun e w' => e = .returned (.bool true) ∧ Below w.heap.size w w') { tmps := #[s0, .int .i64 n, s2, s3, .pointer (some ⟨bp, 0, none⟩), s5, s6, s7, .bool false, .pointer (some ⟨bx, 0, none⟩), s10, s11, s12, s13, s14, s15, s16, s17, s18, s19, s20, s21, s22, s23, s24, s25, s26, s27, s28, s29, s30, s31, s32, s33, s34, s35, s36, s37, s38, s39, s40, s41, s42, s43, s44, s45, s46, s47, s48, s49, s50, s51, s52, s53, s54, s55, s56, s57, s58, s59, s60, s61, s62, s63, s64, s65, s66, s67, s68, s69, s70, s71, s72, s73, s74, s75, s76, s77, s78, s79, s80, s81, s82, s83, s84, s85, s86, s87, s88, s89, s90, s91, s92, s93, s94, s95, s96, s97, s98, s99, s100, s101, s102, s103, s104, s105, s106, s107, s108, s109, s110, s111, s112, s113, s114, s115, s116, s117, s118, s119, s120, s121, s122, s123, s124, s125, s126, s127, s128, s129, s130, s131, s132, s133, s134, s135, s136, s137, s138, s139, s140, s141, s142, s143, s144, s145, s146, s147, s148, s149, s150, s151, s152, s153, s154, s155, s156, s157, s158, s159, s160, s161, s162, s163, s164, s165, s166, s167, s168, s169, s170, s171, s172, s173, s174, s175, s176, s177, s178, s179, s180, s181, s182, s183, s184, s185, s186, s187, s188, s189, s190, s191, s192, s193, s194, s195, s196, s197, s198, s199, s200, s201, s202, s203, s204, s205, s206, s207, s208, s209, s210, s211, s212, s213, s214, s215, s216, s217, s218, s219, s220, s221, s222, s223, s224, s225, s226, s227, s228, s229, s230, s231, s232, s233, s234, s235, s236, s237, s238, s239, s240, s241, s242, s243, s244, s245, s246, s247, s248, s249, s250, s251, s252, s253, s254, s255, s256, s257, s258, s259, s260, s261, s262, s263, s264, s265, s266, s267, s268, s269, s270, s271, s272, s273, s274, s275, s276, s277, s278, s279, s280, s281, s282, s283, s284, s285, s286, s287, s288, s289, s290, s291, s292, s293, s294, s295, s296, s297, s298, s299, s300, s301, s302, s303, s304, s305, s306, s307, s308, s309, s310, s311, s312, s313, s314, s315, s316, s317, s318, s319, s320, s321, s322, s323, s324, s325], defers := [] } wc := by
    obtain ⟨sa, sb, sa', sb', e13, e13', hs1', hs2', hlaw⟩ := hnw.laws hpk hqk hn
    have TH2 := hT
    have TQ := Lib.hid (fun (W : World) (hg : Gr wc W) => ThingsAt.lasts q.l _ _ _ hqt hg)
    have PC := hpx.facts
    have XC := hbx.facts
    simp only [CellsFrom, Nat.zero_add, Nat.reduceAdd, and_true] at PC XC
    obtain ⟨PC, pl⟩ := PC
    obtain ⟨XC, xl⟩ := XC
    have H13 := Lib.hid e13
    have H13' := Lib.hid e13'
    have hw1 : (decide (sa ≤ sa') && decide (sb' ≤ sb)) = true := by rw [decide_eq_true hs1', decide_eq_true hs2']; rfl
    have hg10 : Gr wc wc := Gr.same wc
    have HLAW := Lib.hid hlaw
    have hsz := HGC.out.size
    obtain ⟨hc, hf, hz⟩ := bcell hg10
    clear hT hpx hbx hqt hnw hpk hqk e13 e13' hs1' hs2' hlaw hn
    conv => arg 2; whnf
    rcases HLAW.out with ⟨hqne, P, Q, P', Q', y, y', B, C, u, v, u', v', e17, e17', hP, hQ, e21, e21', hyy, hdd, hB, hC, ef, ef', hcnt⟩ | ⟨-, e17'⟩
    · have hw2 : (decide (P ≤ P') && decide (Q' ≤ Q)) = true := by rw [decide_eq_true hP, decide_eq_true hQ]; rfl
      have hub : decide ((B : Int) < 0) = false := by simp
      have hvb : decide ((C : Int) < 0) = false := by simp
      have hcb : decide ((cnt B : Int) ≤ (cnt C : Int)) = true := decide_eq_true (by omega)
      have hcb' : decide (cnt B ≤ cnt C) = true := decide_eq_true hcnt
      obtain ⟨d1, d2, ed', c, c', ed, hd', hd, hin⟩ : ∃ d1 d2 ed' c c' ed : Int, q.distance n = (d1, d2, ed') ∧ p.distance n = (c, c', ed) ∧ (ed' = 0 → ed = 0 ∧ c ≤ d1 ∧ d2 ≤ c') := by
        rcases hdd with ⟨d, d', h1, c, c', h2, h3, h4⟩ | ⟨h1, c, c', e, h2⟩
        · exact ⟨d, d', 0, c, c', 0, h1, h2, fun _ => ⟨rfl, h3, h4⟩⟩
        · exact ⟨0, 0, 11, c, c', e, h1, h2, fun h => by cases h⟩
      have HP := Lib.hid e17
      have HQ := Lib.hid e17'
      have HY := Lib.hid e21
      have HY' := Lib.hid e21'
      have HD := Lib.hid hd
      have HD' := Lib.hid hd'
      have HF1 := Lib.hid ef
      have HF2 := Lib.hid ef'
      have HYY := Lib.hid hyy
      have HIN := Lib.hid hin
      clear e17 e17' hP hQ e21 e21' hdd hd hd' ef ef' hcnt hyy hin hqne HLAW
      go_wp2_with fail
      clear hc hf hz
      refine (power_is HP.out (TH2.out _ hg10)).mono ?_
      rintro e w11 ⟨rfl, hb11⟩
      have gg11 : Gr _ _ := hb11
      have hg11 := Gr.tr hg10 gg11
      clear hg10 gg11 hb11
      obtain ⟨hc, hf, hz⟩ := bcell hg11
      go_wp2_with fail
      clear hc hf hz
      refine (power_is HQ.out (TQ.out _ (hg11.tr (Gr.alloc _ _)))).mono ?_
      rintro e w12 ⟨rfl, hb12⟩
      have gg12 : Gr _ _ := (Gr.alloc _ _).tr hb12
      have hg12 := Gr.tr hg11 gg12
      have y11_0 := ((bcell hb12).1 w11.heap.size 0 (by simp)).trans (show _ = some (.int .i64 P) by simp)
      have y11_1 := ((bcell hb12).1 w11.heap.size 1 (by simp)).trans (show _ = some (.int .i64 Q) by simp)
      have k11 : w11.heap.size < w12.heap.size := Nat.lt_of_lt_of_le (by simp) hb12.size
      have k11n : w11.heap.size ≠ w12.heap.size := Nat.ne_of_lt k11
      have k11m : w12.heap.size ≠ w11.heap.size := (Nat.ne_of_lt k11).symm
      have k11p : w11.heap.size < w12.heap.size + 1 := Nat.lt_succ_of_lt k11
      clear hg11 gg12 hb12
      obtain ⟨hc, hf, hz⟩ := bcell hg12
      go_wp2_with fail
      clear hc hf hz
      refine (shift_is H13.out (TH2.out _ (hg12.tr (Gr.alloc _ _)))).mono ?_
      rintro e w13 ⟨rfl, hb13⟩
      have gg13 : Gr _ _ := (Gr.alloc _ _).tr hb13
      have hg13 := Gr.tr hg12 gg13
      replace y11_0 := ((bcell gg13).1 w11.heap.size 0 k11).trans y11_0
      replace y11_1 := ((bcell gg13).1 w11.heap.size 1 k11).trans y11_1
      clear k11n k11m k11p
      replace k11 : w11.heap.size < w13.heap.size := Nat.lt_of_lt_of_le k11 gg13.size
      have k11n : w11.heap.size ≠ w13.heap.size := Nat.ne_of_lt k11
      have k11m : w13.heap.size ≠ w11.heap.size := (Nat.ne_of_lt k11).symm
      have k11p : w11.heap.size < w13.heap.size + 1 := Nat.lt_succ_of_lt k11
      have y12_0 := ((bcell hb13).1 w12.heap.size 0 (by simp)).trans (show _ = some (.int .i64 P') by simp)
      have y12_1 := ((bcell hb13).1 w12.heap.size 1 (by simp)).trans (show _ = some (.int .i64 Q') by simp)
      have k12 : w12.heap.size < w13.heap.size := Nat.lt_of_lt_of_le (by simp) hb13.size
      have k12n : w12.heap.size ≠ w13.heap.size := Nat.ne_of_lt k12
      have k12m : w13.heap.size ≠ w12.heap.size := (Nat.ne_of_lt k12).symm
      have k12p : w12.heap.size < w13.heap.size + 1 := Nat.lt_succ_of_lt k12
      clear hg12 gg13 hb13
      obtain ⟨hc, hf, hz⟩ := bcell hg13
      go_wp2_with fail
      clear hc hf hz
      refine (shift_is H13'.out (TQ.out _ (hg13.tr (Gr.alloc _ _)))).mono ?_
      rintro e w14 ⟨rfl, hb14⟩
      have gg14 : Gr _ _ := (Gr.alloc _ _).tr hb14
      have hg14 := Gr.tr hg13 gg14
      replace y11_0 := ((bcell gg14).1 w11.heap.size 0 k11).trans y11_0
      replace y11_1 := ((bcell gg14).1 w11.heap.size 1 k11).trans y11_1
      clear k11n k11m k11p
      replace k11 : w11.heap.size < w14.heap.size := Nat.lt_of_lt_of_le k11 gg14.size
      have k11n : w11.heap.size ≠ w14.heap.size := Nat.ne_of_lt k11
      have k11m : w14.heap.size ≠ w11.heap.size := (Nat.ne_of_lt k11).symm
      have k11p : w11.heap.size < w14.heap.size + 1 := Nat.lt_succ_of_lt k11
      replace y12_0 := ((bcell gg14).1 w12.heap.size 0 k12).trans y12_0
      replace y12_1 := ((bcell gg14).1 w12.heap.size 1 k12).trans y12_1
      clear k12n k12m k12p
      replace k12 : w12.heap.size < w14.heap.size := Nat.lt_of_lt_of_le k12 gg14.size
      have k12n : w12.heap.size ≠ w14.heap.size := Nat.ne_of_lt k12
      have k12m : w14.heap.size ≠ w12.heap.size := (Nat.ne_of_lt k12).symm
      have k12p : w12.heap.size < w14.heap.size + 1 := Nat.lt_succ_of_lt k12
      have y13_0 := ((bcell hb14).1 w13.heap.size 0 (by simp)).trans (show _ = some (.int .i64 sa) by simp)
      have y13_1 := ((bcell hb14).1 w13.heap.size 1 (by simp)).trans (show _ = some (.int .i64 sb) by simp)
      have k13 : w13.heap.size < w14.heap.size := Nat.lt_of_lt_of_le (by simp) hb14.size
      have k13n : w13.heap.size ≠ w14.heap.size := Nat.ne_of_lt k13
      have k13m : w14.heap.size ≠ w13.heap.size := (Nat.ne_of_lt k13).symm
      have k13p : w13.heap.size < w14.heap.size + 1 := Nat.lt_succ_of_lt k13
      clear hg13 gg14 hb14
      obtain ⟨hc, hf, hz⟩ := bcell hg14
      go_wp2_with fail
      clear hc hf hz
      refine (lwithin_any _ _ _ _ true hw1 _).mono ?_
      rintro e w15 ⟨rfl, hb15⟩
      have gg15 : Gr _ _ := (Gr.alloc _ _).tr hb15
      have hg15 := Gr.tr hg14 gg15
      replace y11_0 := ((bcell gg15).1 w11.heap.size 0 k11).trans y11_0
      replace y11_1 := ((bcell gg15).1 w11.heap.size 1 k11).trans y11_1
      clear k11n k11m k11p
      replace k11 : w11.heap.size < w15.heap.size := Nat.lt_of_lt_of_le k11 gg15.size
      have k11n : w11.heap.size ≠ w15.heap.size := Nat.ne_of_lt k11
      have k11m : w15.heap.size ≠ w11.heap.size := (Nat.ne_of_lt k11).symm
      have k11p : w11.heap.size < w15.heap.size + 1 := Nat.lt_succ_of_lt k11
      replace y12_0 := ((bcell gg15).1 w12.heap.size 0 k12).trans y12_0
      replace y12_1 := ((bcell gg15).1 w12.heap.size 1 k12).trans y12_1
      clear k12n k12m k12p
      replace k12 : w12.heap.size < w15.heap.size := Nat.lt_of_lt_of_le k12 gg15.size
      have k12n : w12.heap.size ≠ w15.heap.size := Nat.ne_of_lt k12
      have k12m : w15.heap.size ≠ w12.heap.size := (Nat.ne_of_lt k12).symm
      have k12p : w12.heap.size < w15.heap.size + 1 := Nat.lt_succ_of_lt k12
      replace y13_0 := ((bcell gg15).1 w13.heap.size 0 k13).trans y13_0
      replace y13_1 := ((bcell gg15).1 w13.heap.size 1 k13).trans y13_1
      clear k13n k13m k13p
      replace k13 : w13.heap.size < w15.heap.size := Nat.lt_of_lt_of_le k13 gg15.size
      have k13n : w13.heap.size ≠ w15.heap.size := Nat.ne_of_lt k13
      have k13m : w15.heap.size ≠ w13.heap.size := (Nat.ne_of_lt k13).symm
      have k13p : w13.heap.size < w15.heap.size + 1 := Nat.lt_succ_of_lt k13
      have y14_0 := ((bcell hb15).1 w14.heap.size 0 (by simp)).trans (show _ = some (.int .i64 sa') by simp)
      have y14_1 := ((bcell hb15).1 w14.heap.size 1 (by simp)).trans (show _ = some (.int .i64 sb') by simp)
      have k14 : w14.heap.size < w15.heap.size := Nat.lt_of_lt_of_le (by simp) hb15.size
      have k14n : w14.heap.size ≠ w15.heap.size := Nat.ne_of_lt k14
      have k14m : w15.heap.size ≠ w14.heap.size := (Nat.ne_of_lt k14).symm
      have k14p : w14.heap.size < w15.heap.size + 1 := Nat.lt_succ_of_lt k14
      clear hg14 gg15 hb15
      obtain ⟨hc, hf, hz⟩ := bcell hg15
      go_wp2_with fail
      clear hc hf hz
      refine (why_is HY.out (TH2.out _ hg15)).mono ?_
      rintro e w16 ⟨rfl, hb16⟩
      have gg16 : Gr _ _ := hb16
      have hg16 := Gr.tr hg15 gg16
      replace y11_0 := ((bcell gg16).1 w11.heap.size 0 k11).trans y11_0
      replace y11_1 := ((bcell gg16).1 w11.heap.size 1 k11).trans y11_1
      clear k11n k11m k11p
      replace k11 : w11.heap.size < w16.heap.size := Nat.lt_of_lt_of_le k11 gg16.size
      have k11n : w11.heap.size ≠ w16.heap.size := Nat.ne_of_lt k11
      have k11m : w16.heap.size ≠ w11.heap.size := (Nat.ne_of_lt k11).symm
      have k11p : w11.heap.size < w16.heap.size + 1 := Nat.lt_succ_of_lt k11
      replace y12_0 := ((bcell gg16).1 w12.heap.size 0 k12).trans y12_0
      replace y12_1 := ((bcell gg16).1 w12.heap.size 1 k12).trans y12_1
      clear k12n k12m k12p
      replace k12 : w12.heap.size < w16.heap.size := Nat.lt_of_lt_of_le k12 gg16.size
      have k12n : w12.heap.size ≠ w16.heap.size := Nat.ne_of_lt k12
      have k12m : w16.heap.size ≠ w12.heap.size := (Nat.ne_of_lt k12).symm
      have k12p : w12.heap.size < w16.heap.size + 1 := Nat.lt_succ_of_lt k12
      clear y13_0 y13_1 k13n k13m k13p k13
      clear y14_0 y14_1 k14n k14m k14p k14
      clear hg15 gg16 hb16
      obtain ⟨hc, hf, hz⟩ := bcell hg16
      go_wp2_with fail
      clear hc hf hz
      refine (why_is HY'.out (TQ.out _ hg16)).mono ?_
      rintro e w17 ⟨rfl, hb17⟩
      have gg17 : Gr _ _ := hb17
      have hg17 := Gr.tr hg16 gg17
      replace y11_0 := ((bcell gg17).1 w11.heap.size 0 k11).trans y11_0
      replace y11_1 := ((bcell gg17).1 w11.heap.size 1 k11).trans y11_1
      clear k11n k11m k11p
      replace k11 : w11.heap.size < w17.heap.size := Nat.lt_of_lt_of_le k11 gg17.size
      have k11n : w11.heap.size ≠ w17.heap.size := Nat.ne_of_lt k11
      have k11m : w17.heap.size ≠ w11.heap.size := (Nat.ne_of_lt k11).symm
      have k11p : w11.heap.size < w17.heap.size + 1 := Nat.lt_succ_of_lt k11
      replace y12_0 := ((bcell gg17).1 w12.heap.size 0 k12).trans y12_0
      replace y12_1 := ((bcell gg17).1 w12.heap.size 1 k12).trans y12_1
      clear k12n k12m k12p
      replace k12 : w12.heap.size < w17.heap.size := Nat.lt_of_lt_of_le k12 gg17.size
      have k12n : w12.heap.size ≠ w17.heap.size := Nat.ne_of_lt k12
      have k12m : w17.heap.size ≠ w12.heap.size := (Nat.ne_of_lt k12).symm
      have k12p : w12.heap.size < w17.heap.size + 1 := Nat.lt_succ_of_lt k12
      clear hg16 gg17 hb17
      obtain ⟨hc, hf, hz⟩ := bcell hg17
      go_wp2_with fail
      clear hc hf hz
      refine (distance_is HD.out (TH2.out _ hg17)).mono ?_
      rintro e w18 ⟨rfl, hb18⟩
      have gg18 : Gr _ _ := hb18
      have hg18 := Gr.tr hg17 gg18
      replace y11_0 := ((bcell gg18).1 w11.heap.size 0 k11).trans y11_0
      replace y11_1 := ((bcell gg18).1 w11.heap.size 1 k11).trans y11_1
      clear k11n k11m k11p
      replace k11 : w11.heap.size < w18.heap.size := Nat.lt_of_lt_of_le k11 gg18.size
      have k11n : w11.heap.size ≠ w18.heap.size := Nat.ne_of_lt k11
      have k11m : w18.heap.size ≠ w11.heap.size := (Nat.ne_of_lt k11).symm
      have k11p : w11.heap.size < w18.heap.size + 1 := Nat.lt_succ_of_lt k11
      replace y12_0 := ((bcell gg18).1 w12.heap.size 0 k12).trans y12_0
      replace y12_1 := ((bcell gg18).1 w12.heap.size 1 k12).trans y12_1
      clear k12n k12m k12p
      replace k12 : w12.heap.size < w18.heap.size := Nat.lt_of_lt_of_le k12 gg18.size
      have k12n : w12.heap.size ≠ w18.heap.size := Nat.ne_of_lt k12
      have k12m : w18.heap.size ≠ w12.heap.size := (Nat.ne_of_lt k12).symm
      have k12p : w12.heap.size < w18.heap.size + 1 := Nat.lt_succ_of_lt k12
      clear hg17 gg18 hb18
      obtain ⟨hc, hf, hz⟩ := bcell hg18
      go_wp2_with fail
      clear hc hf hz
      refine (distance_is HD'.out (TQ.out _ (hg18.tr (Gr.alloc _ _)))).mono ?_
      rintro e w19 ⟨rfl, hb19⟩
      have gg19 : Gr _ _ := (Gr.alloc _ _).tr hb19
      have hg19 := Gr.tr hg18 gg19
      replace y11_0 := ((bcell gg19).1 w11.heap.size 0 k11).trans y11_0
      replace y11_1 := ((bcell gg19).1 w11.heap.size 1 k11).trans y11_1
      clear k11n k11m k11p
      replace k11 : w11.heap.size < w19.heap.size := Nat.lt_of_lt_of_le k11 gg19.size
      have k11n : w11.heap.size ≠ w19.heap.size := Nat.ne_of_lt k11
      have k11m : w19.heap.size ≠ w11.heap.size := (Nat.ne_of_lt k11).symm
      have k11p : w11.heap.size < w19.heap.size + 1 := Nat.lt_succ_of_lt k11
      replace y12_0 := ((bcell gg19).1 w12.heap.size 0 k12).trans y12_0
      replace y12_1 := ((bcell gg19).1 w12.heap.size 1 k12).trans y12_1
      clear k12n k12m k12p
      replace k12 : w12.heap.size < w19.heap.size := Nat.lt_of_lt_of_le k12 gg19.size
      have k12n : w12.heap.size ≠ w19.heap.size := Nat.ne_of_lt k12
      have k12m : w19.heap.size ≠ w12.heap.size := (Nat.ne_of_lt k12).symm
      have k12p : w12.heap.size < w19.heap.size + 1 := Nat.lt_succ_of_lt k12
      have y18_0 := ((bcell hb19).1 w18.heap.size 0 (by simp)).trans (show _ = some (.int .i64 c) by simp)
      have y18_1 := ((bcell hb19).1 w18.heap.size 1 (by simp)).trans (show _ = some (.int .i64 c') by simp)
      have k18 : w18.heap.size < w19.heap.size := Nat.lt_of_lt_of_le (by simp) hb19.size
      have k18n : w18.heap.size ≠ w19.heap.size := Nat.ne_of_lt k18
      have k18m : w19.heap.size ≠ w18.heap.size := (Nat.ne_of_lt k18).symm
      have k18p : w18.heap.size < w19.heap.size + 1 := Nat.lt_succ_of_lt k18
      clear hg18 gg19 hb19
      obtain ⟨hc, hf, hz⟩ := bcell hg19
      go_wp2_with fail
      clear hc hf hz
      refine (fewest_is HF1.out (TH2.out _ (hg19.tr (Gr.alloc _ _)))).mono ?_
      rintro e w20 ⟨rfl, hb20⟩
      have gg20 : Gr _ _ := (Gr.alloc _ _).tr hb20
      have hg20 := Gr.tr hg19 gg20
      replace y11_0 := ((bcell gg20).1 w11.heap.size 0 k11).trans y11_0
      replace y11_1 := ((bcell gg20).1 w11.heap.size 1 k11).trans y11_1
      clear k11n k11m k11p
      replace k11 : w11.heap.size < w20.heap.size := Nat.lt_of_lt_of_le k11 gg20.size
      have k11n : w11.heap.size ≠ w20.heap.size := Nat.ne_of_lt k11
      have k11m : w20.heap.size ≠ w11.heap.size := (Nat.ne_of_lt k11).symm
      have k11p : w11.heap.size < w20.heap.size + 1 := Nat.lt_succ_of_lt k11
      replace y12_0 := ((bcell gg20).1 w12.heap.size 0 k12).trans y12_0
      replace y12_1 := ((bcell gg20).1 w12.heap.size 1 k12).trans y12_1
      clear k12n k12m k12p
      replace k12 : w12.heap.size < w20.heap.size := Nat.lt_of_lt_of_le k12 gg20.size
      have k12n : w12.heap.size ≠ w20.heap.size := Nat.ne_of_lt k12
      have k12m : w20.heap.size ≠ w12.heap.size := (Nat.ne_of_lt k12).symm
      have k12p : w12.heap.size < w20.heap.size + 1 := Nat.lt_succ_of_lt k12
      replace y18_0 := ((bcell gg20).1 w18.heap.size 0 k18).trans y18_0
      replace y18_1 := ((bcell gg20).1 w18.heap.size 1 k18).trans y18_1
      clear k18n k18m k18p
      replace k18 : w18.heap.size < w20.heap.size := Nat.lt_of_lt_of_le k18 gg20.size
      have k18n : w18.heap.size ≠ w20.heap.size := Nat.ne_of_lt k18
      have k18m : w20.heap.size ≠ w18.heap.size := (Nat.ne_of_lt k18).symm
      have k18p : w18.heap.size < w20.heap.size + 1 := Nat.lt_succ_of_lt k18
      have y19_0 := ((bcell hb20).1 w19.heap.size 0 (by simp)).trans (show _ = some (.int .i64 d1) by simp)
      have y19_1 := ((bcell hb20).1 w19.heap.size 1 (by simp)).trans (show _ = some (.int .i64 d2) by simp)
      have k19 : w19.heap.size < w20.heap.size := Nat.lt_of_lt_of_le (by simp) hb20.size
      have k19n : w19.heap.size ≠ w20.heap.size := Nat.ne_of_lt k19
      have k19m : w20.heap.size ≠ w19.heap.size := (Nat.ne_of_lt k19).symm
      have k19p : w19.heap.size < w20.heap.size + 1 := Nat.lt_succ_of_lt k19
      clear hg19 gg20 hb20
      obtain ⟨hc, hf, hz⟩ := bcell hg20
      go_wp2_with fail
      clear hc hf hz
      refine (fewest_is HF2.out (TQ.out _ (hg20.tr (Gr.alloc _ _)))).mono ?_
      rintro e w21 ⟨rfl, hb21⟩
      have gg21 : Gr _ _ := (Gr.alloc _ _).tr hb21
      have hg21 := Gr.tr hg20 gg21
      replace y11_0 := ((bcell gg21).1 w11.heap.size 0 k11).trans y11_0
      replace y11_1 := ((bcell gg21).1 w11.heap.size 1 k11).trans y11_1
      clear k11n k11m k11p
      replace k11 : w11.heap.size < w21.heap.size := Nat.lt_of_lt_of_le k11 gg21.size
      have k11n : w11.heap.size ≠ w21.heap.size := Nat.ne_of_lt k11
      have k11m : w21.heap.size ≠ w11.heap.size := (Nat.ne_of_lt k11).symm
      have k11p : w11.heap.size < w21.heap.size + 1 := Nat.lt_succ_of_lt k11
      replace y12_0 := ((bcell gg21).1 w12.heap.size 0 k12).trans y12_0
      replace y12_1 := ((bcell gg21).1 w12.heap.size 1 k12).trans y12_1
      clear k12n k12m k12p
      replace k12 : w12.heap.size < w21.heap.size := Nat.lt_of_lt_of_le k12 gg21.size
      have k12n : w12.heap.size ≠ w21.heap.size := Nat.ne_of_lt k12
      have k12m : w21.heap.size ≠ w12.heap.size := (Nat.ne_of_lt k12).symm
      have k12p : w12.heap.size < w21.heap.size + 1 := Nat.lt_succ_of_lt k12
      replace y18_0 := ((bcell gg21).1 w18.heap.size 0 k18).trans y18_0
      replace y18_1 := ((bcell gg21).1 w18.heap.size 1 k18).trans y18_1
      clear k18n k18m k18p
      replace k18 : w18.heap.size < w21.heap.size := Nat.lt_of_lt_of_le k18 gg21.size
      have k18n : w18.heap.size ≠ w21.heap.size := Nat.ne_of_lt k18
      have k18m : w21.heap.size ≠ w18.heap.size := (Nat.ne_of_lt k18).symm
      have k18p : w18.heap.size < w21.heap.size + 1 := Nat.lt_succ_of_lt k18
      replace y19_0 := ((bcell gg21).1 w19.heap.size 0 k19).trans y19_0
      replace y19_1 := ((bcell gg21).1 w19.heap.size 1 k19).trans y19_1
      clear k19n k19m k19p
      replace k19 : w19.heap.size < w21.heap.size := Nat.lt_of_lt_of_le k19 gg21.size
      have k19n : w19.heap.size ≠ w21.heap.size := Nat.ne_of_lt k19
      have k19m : w21.heap.size ≠ w19.heap.size := (Nat.ne_of_lt k19).symm
      have k19p : w19.heap.size < w21.heap.size + 1 := Nat.lt_succ_of_lt k19
      clear hg20 gg21 hb21
      obtain ⟨hc, hf, hz⟩ := bcell hg21
      go_wp2_with fail
      clear hc hf hz
      refine (lwithin_any _ _ _ _ true hw2 _).mono ?_
      rintro e w22 ⟨rfl, hb22⟩
      have gg22 : Gr _ _ := (Gr.alloc _ _).tr hb22
      have hg22 := Gr.tr hg21 gg22
      replace y11_0 := ((bcell gg22).1 w11.heap.size 0 k11).trans y11_0
      replace y11_1 := ((bcell gg22).1 w11.heap.size 1 k11).trans y11_1
      clear k11n k11m k11p
      replace k11 : w11.heap.size < w22.heap.size := Nat.lt_of_lt_of_le k11 gg22.size
      have k11n : w11.heap.size ≠ w22.heap.size := Nat.ne_of_lt k11
      have k11m : w22.heap.size ≠ w11.heap.size := (Nat.ne_of_lt k11).symm
      have k11p : w11.heap.size < w22.heap.size + 1 := Nat.lt_succ_of_lt k11
      replace y12_0 := ((bcell gg22).1 w12.heap.size 0 k12).trans y12_0
      replace y12_1 := ((bcell gg22).1 w12.heap.size 1 k12).trans y12_1
      clear k12n k12m k12p
      replace k12 : w12.heap.size < w22.heap.size := Nat.lt_of_lt_of_le k12 gg22.size
      have k12n : w12.heap.size ≠ w22.heap.size := Nat.ne_of_lt k12
      have k12m : w22.heap.size ≠ w12.heap.size := (Nat.ne_of_lt k12).symm
      have k12p : w12.heap.size < w22.heap.size + 1 := Nat.lt_succ_of_lt k12
      replace y18_0 := ((bcell gg22).1 w18.heap.size 0 k18).trans y18_0
      replace y18_1 := ((bcell gg22).1 w18.heap.size 1 k18).trans y18_1
      clear k18n k18m k18p
      replace k18 : w18.heap.size < w22.heap.size := Nat.lt_of_lt_of_le k18 gg22.size
      have k18n : w18.heap.size ≠ w22.heap.size := Nat.ne_of_lt k18
      have k18m : w22.heap.size ≠ w18.heap.size := (Nat.ne_of_lt k18).symm
      have k18p : w18.heap.size < w22.heap.size + 1 := Nat.lt_succ_of_lt k18
      replace y19_0 := ((bcell gg22).1 w19.heap.size 0 k19).trans y19_0
      replace y19_1 := ((bcell gg22).1 w19.heap.size 1 k19).trans y19_1
      clear k19n k19m k19p
      replace k19 : w19.heap.size < w22.heap.size := Nat.lt_of_lt_of_le k19 gg22.size
      have k19n : w19.heap.size ≠ w22.heap.size := Nat.ne_of_lt k19
      have k19m : w22.heap.size ≠ w19.heap.size := (Nat.ne_of_lt k19).symm
      have k19p : w19.heap.size < w22.heap.size + 1 := Nat.lt_succ_of_lt k19
      clear hg21 gg22 hb22
      obtain ⟨hc, hf, hz⟩ := bcell hg22
      cases cy : (y != 0) with
      | true =>
        have cy' : (y' == 0) = false := by have := HYY.out (by simpa using cy); simpa using this
        by_cases ce : ed' = 0
        · obtain ⟨ce1, ce2, ce3⟩ := HIN.out ce
          subst ce ce1
          have hw3 : (decide (c ≤ d1) && decide (d2 ≤ c')) = true := by rw [decide_eq_true ce2, decide_eq_true ce3]; rfl
          go_wp2_with fail
          clear hc hf hz
          refine (lwithin_any _ _ _ _ true hw3 _).mono ?_
          rintro e w23 ⟨rfl, hb23⟩
          have gg23 : Gr _ _ := hb23
          have hg23 := Gr.tr hg22 gg23
          replace y11_0 := ((bcell gg23).1 w11.heap.size 0 k11).trans y11_0
          replace y11_1 := ((bcell gg23).1 w11.heap.size 1 k11).trans y11_1
          clear k11n k11m k11p
          replace k11 : w11.heap.size < w23.heap.size := Nat.lt_of_lt_of_le k11 gg23.size
          have k11n : w11.heap.size ≠ w23.heap.size := Nat.ne_of_lt k11
          have k11m : w23.heap.size ≠ w11.heap.size := (Nat.ne_of_lt k11).symm
          have k11p : w11.heap.size < w23.heap.size + 1 := Nat.lt_succ_of_lt k11
          replace y12_0 := ((bcell gg23).1 w12.heap.size 0 k12).trans y12_0
          replace y12_1 := ((bcell gg23).1 w12.heap.size 1 k12).trans y12_1
          clear k12n k12m k12p
          replace k12 : w12.heap.size < w23.heap.size := Nat.lt_of_lt_of_le k12 gg23.size
          have k12n : w12.heap.size ≠ w23.heap.size := Nat.ne_of_lt k12
          have k12m : w23.heap.size ≠ w12.heap.size := (Nat.ne_of_lt k12).symm
          have k12p : w12.heap.size < w23.heap.size + 1 := Nat.lt_succ_of_lt k12
          replace y18_0 := ((bcell gg23).1 w18.heap.size 0 k18).trans y18_0
          replace y18_1 := ((bcell gg23).1 w18.heap.size 1 k18).trans y18_1
          clear k18n k18m k18p
          replace k18 : w18.heap.size < w23.heap.size := Nat.lt_of_lt_of_le k18 gg23.size
          have k18n : w18.heap.size ≠ w23.heap.size := Nat.ne_of_lt k18
          have k18m : w23.heap.size ≠ w18.heap.size := (Nat.ne_of_lt k18).symm
          have k18p : w18.heap.size < w23.heap.size + 1 := Nat.lt_succ_of_lt k18
          replace y19_0 := ((bcell gg23).1 w19.heap.size 0 k19).trans y19_0
          replace y19_1 := ((bcell gg23).1 w19.heap.size 1 k19).trans y19_1
          clear k19n k19m k19p
          replace k19 : w19.heap.size < w23.heap.size := Nat.lt_of_lt_of_le k19 gg23.size
          have k19n : w19.heap.size ≠ w23.heap.size := Nat.ne_of_lt k19
          have k19m : w23.heap.size ≠ w19.heap.size := (Nat.ne_of_lt k19).symm
          have k19p : w19.heap.size < w23.heap.size + 1 := Nat.lt_succ_of_lt k19
          clear hg22 gg23 hb23
          obtain ⟨hc, hf, hz⟩ := bcell hg23
          go_wp2_with fail
          clear hc hf hz
          refine (rcount_any C _ hC).mono ?_
          rintro e w24 ⟨rfl, hb24⟩
          have gg24 : Gr _ _ := hb24
          have hg24 := Gr.tr hg23 gg24
          clear y11_0 y11_1 k11n k11m k11p k11
          clear y12_0 y12_1 k12n k12m k12p k12
          clear y18_0 y18_1 k18n k18m k18p k18
          clear y19_0 y19_1 k19n k19m k19p k19
          clear hg23 gg24 hb24
          obtain ⟨hc, hf, hz⟩ := bcell hg24
          go_wp2_with fail
          clear hc hf hz
          refine (rcount_any B _ hB).mono ?_
          rintro e w25 ⟨rfl, hb25⟩
          have gg25 : Gr _ _ := hb25
          have hg25 := Gr.tr hg24 gg25
          clear hg24 gg25 hb25
          obtain ⟨hc, hf, hz⟩ := bcell hg25
          go_wp2_with fail
          refine (awake_any _).mono ?_
          rintro e wz ⟨rfl, hbz⟩
          go_wp2
          go_ret
          exact ⟨rfl, bgr (bgr HGC.out hsz hg25) (Nat.le_trans hsz hg25.size) hbz⟩
        · have ce1 : (ed' == 0) = false := by simpa using ce
          go_wp2_with fail
          clear hc hf hz
          refine (rcount_any C _ hC).mono ?_
          rintro e w23 ⟨rfl, hb23⟩
          have gg23 : Gr _ _ := hb23
          have hg23 := Gr.tr hg22 gg23
          clear y11_0 y11_1 k11n k11m k11p k11
          clear y12_0 y12_1 k12n k12m k12p k12
          clear y18_0 y18_1 k18n k18m k18p k18
          clear y19_0 y19_1 k19n k19m k19p k19
          clear hg22 gg23 hb23
          obtain ⟨hc, hf, hz⟩ := bcell hg23
          go_wp2_with fail
          clear hc hf hz
          refine (rcount_any B _ hB).mono ?_
          rintro e w24 ⟨rfl, hb24⟩
          have gg24 : Gr _ _ := hb24
          have hg24 := Gr.tr hg23 gg24
          clear hg23 gg24 hb24
          obtain ⟨hc, hf, hz⟩ := bcell hg24
          go_wp2_with fail
          refine (awake_any _).mono ?_
          rintro e wz ⟨rfl, hbz⟩
          go_wp2
          go_ret
          exact ⟨rfl, bgr (bgr HGC.out hsz hg24) (Nat.le_trans hsz hg24.size) hbz⟩
      | false =>
        by_cases ce : ed' = 0
        · obtain ⟨ce1, ce2, ce3⟩ := HIN.out ce
          subst ce ce1
          have hw3 : (decide (c ≤ d1) && decide (d2 ≤ c')) = true := by rw [decide_eq_true ce2, decide_eq_true ce3]; rfl
          go_wp2_with fail
          clear hc hf hz
          refine (lwithin_any _ _ _ _ true hw3 _).mono ?_
          rintro e w23 ⟨rfl, hb23⟩
          have gg23 : Gr _ _ := hb23
          have hg23 := Gr.tr hg22 gg23
          replace y11_0 := ((bcell gg23).1 w11.heap.size 0 k11).trans y11_0
          replace y11_1 := ((bcell gg23).1 w11.heap.size 1 k11).trans y11_1
          clear k11n k11m k11p
          replace k11 : w11.heap.size < w23.heap.size := Nat.lt_of_lt_of_le k11 gg23.size
          have k11n : w11.heap.size ≠ w23.heap.size := Nat.ne_of_lt k11
          have k11m : w23.heap.size ≠ w11.heap.size := (Nat.ne_of_lt k11).symm
          have k11p : w11.heap.size < w23.heap.size + 1 := Nat.lt_succ_of_lt k11
          replace y12_0 := ((bcell gg23).1 w12.heap.size 0 k12).trans y12_0
          replace y12_1 := ((bcell gg23).1 w12.heap.size 1 k12).trans y12_1
          clear k12n k12m k12p
          replace k12 : w12.heap.size < w23.heap.size := Nat.lt_of_lt_of_le k12 gg23.size
          have k12n : w12.heap.size ≠ w23.heap.size := Nat.ne_of_lt k12
          have k12m : w23.heap.size ≠ w12.heap.size := (Nat.ne_of_lt k12).symm
          have k12p : w12.heap.size < w23.heap.size + 1 := Nat.lt_succ_of_lt k12
          replace y18_0 := ((bcell gg23).1 w18.heap.size 0 k18).trans y18_0
          replace y18_1 := ((bcell gg23).1 w18.heap.size 1 k18).trans y18_1
          clear k18n k18m k18p
          replace k18 : w18.heap.size < w23.heap.size := Nat.lt_of_lt_of_le k18 gg23.size
          have k18n : w18.heap.size ≠ w23.heap.size := Nat.ne_of_lt k18
          have k18m : w23.heap.size ≠ w18.heap.size := (Nat.ne_of_lt k18).symm
          have k18p : w18.heap.size < w23.heap.size + 1 := Nat.lt_succ_of_lt k18
          replace y19_0 := ((bcell gg23).1 w19.heap.size 0 k19).trans y19_0
          replace y19_1 := ((bcell gg23).1 w19.heap.size 1 k19).trans y19_1
          clear k19n k19m k19p
          replace k19 : w19.heap.size < w23.heap.size := Nat.lt_of_lt_of_le k19 gg23.size
          have k19n : w19.heap.size ≠ w23.heap.size := Nat.ne_of_lt k19
          have k19m : w23.heap.size ≠ w19.heap.size := (Nat.ne_of_lt k19).symm
          have k19p : w19.heap.size < w23.heap.size + 1 := Nat.lt_succ_of_lt k19
          clear hg22 gg23 hb23
          obtain ⟨hc, hf, hz⟩ := bcell hg23
          go_wp2_with fail
          clear hc hf hz
          refine (rcount_any C _ hC).mono ?_
          rintro e w24 ⟨rfl, hb24⟩
          have gg24 : Gr _ _ := hb24
          have hg24 := Gr.tr hg23 gg24
          clear y11_0 y11_1 k11n k11m k11p k11
          clear y12_0 y12_1 k12n k12m k12p k12
          clear y18_0 y18_1 k18n k18m k18p k18
          clear y19_0 y19_1 k19n k19m k19p k19
          clear hg23 gg24 hb24
          obtain ⟨hc, hf, hz⟩ := bcell hg24
          go_wp2_with fail
          clear hc hf hz
          refine (rcount_any B _ hB).mono ?_
          rintro e w25 ⟨rfl, hb25⟩
          have gg25 : Gr _ _ := hb25
          have hg25 := Gr.tr hg24 gg25
          clear hg24 gg25 hb25
          obtain ⟨hc, hf, hz⟩ := bcell hg25
          go_wp2_with fail
          refine (awake_any _).mono ?_
          rintro e wz ⟨rfl, hbz⟩
          go_wp2
          go_ret
          exact ⟨rfl, bgr (bgr HGC.out hsz hg25) (Nat.le_trans hsz hg25.size) hbz⟩
        · have ce1 : (ed' == 0) = false := by simpa using ce
          go_wp2_with fail
          clear hc hf hz
          refine (rcount_any C _ hC).mono ?_
          rintro e w23 ⟨rfl, hb23⟩
          have gg23 : Gr _ _ := hb23
          have hg23 := Gr.tr hg22 gg23
          clear y11_0 y11_1 k11n k11m k11p k11
          clear y12_0 y12_1 k12n k12m k12p k12
          clear y18_0 y18_1 k18n k18m k18p k18
          clear y19_0 y19_1 k19n k19m k19p k19
          clear hg22 gg23 hb23
          obtain ⟨hc, hf, hz⟩ := bcell hg23
          go_wp2_with fail
          clear hc hf hz
          refine (rcount_any B _ hB).mono ?_
          rintro e w24 ⟨rfl, hb24⟩
          have gg24 : Gr _ _ := hb24
          have hg24 := Gr.tr hg23 gg24
          clear hg23 gg24 hb24
          obtain ⟨hc, hf, hz⟩ := bcell hg24
          go_wp2_with fail
          refine (awake_any _).mono ?_
          rintro e wz ⟨rfl, hbz⟩
          go_wp2
          go_ret
          exact ⟨rfl, bgr (bgr HGC.out hsz hg24) (Nat.le_trans hsz hg24.size) hbz⟩
    · have HQ := Lib.hid e17'
      obtain ⟨P, Q, ep, e17⟩ : ∃ P Q ep : Int, p.power = (P, Q, ep) := ⟨_, _, _, rfl⟩
      have HP := Lib.hid e17
      clear e17 e17' HLAW
      cases ce : (ep != 0)
      · go_wp2_with fail
        clear hc hf hz
        refine (power_is HP.out (TH2.out _ hg10)).mono ?_
        rintro e w11 ⟨rfl, hb11⟩
        have gg11 : Gr _ _ := hb11
        have hg11 := Gr.tr hg10 gg11
        clear hg10 gg11 hb11
        obtain ⟨hc, hf, hz⟩ := bcell hg11
        go_wp2_with fail
        clear hc hf hz
        refine (power_is HQ.out (TQ.out _ (hg11.tr (Gr.alloc _ _)))).mono ?_
        rintro e w12 ⟨rfl, hb12⟩
        have gg12 : Gr _ _ := (Gr.alloc _ _).tr hb12
        have hg12 := Gr.tr hg11 gg12
        have y11_0 := ((bcell hb12).1 w11.heap.size 0 (by simp)).trans (show _ = some (.int .i64 P) by simp)
        have y11_1 := ((bcell hb12).1 w11.heap.size 1 (by simp)).trans (show _ = some (.int .i64 Q) by simp)
        have k11 : w11.heap.size < w12.heap.size := Nat.lt_of_lt_of_le (by simp) hb12.size
        have k11n : w11.heap.size ≠ w12.heap.size := Nat.ne_of_lt k11
        have k11m : w12.heap.size ≠ w11.heap.size := (Nat.ne_of_lt k11).symm
        have k11p : w11.heap.size < w12.heap.size + 1 := Nat.lt_succ_of_lt k11
        clear hg11 gg12 hb12
        obtain ⟨hc, hf, hz⟩ := bcell hg12
        go_wp2_with fail
        clear hc hf hz
        refine (shift_is H13.out (TH2.out _ (hg12.tr (Gr.alloc _ _)))).mono ?_
        rintro e w13 ⟨rfl, hb13⟩
        have gg13 : Gr _ _ := (Gr.alloc _ _).tr hb13
        have hg13 := Gr.tr hg12 gg13
        replace y11_0 := ((bcell gg13).1 w11.heap.size 0 k11).trans y11_0
        replace y11_1 := ((bcell gg13).1 w11.heap.size 1 k11).trans y11_1
        clear k11n k11m k11p
        replace k11 : w11.heap.size < w13.heap.size := Nat.lt_of_lt_of_le k11 gg13.size
        have k11n : w11.heap.size ≠ w13.heap.size := Nat.ne_of_lt k11
        have k11m : w13.heap.size ≠ w11.heap.size := (Nat.ne_of_lt k11).symm
        have k11p : w11.heap.size < w13.heap.size + 1 := Nat.lt_succ_of_lt k11
        have y12_0 := ((bcell hb13).1 w12.heap.size 0 (by simp)).trans (show _ = some (.int .i64 0) by simp)
        have y12_1 := ((bcell hb13).1 w12.heap.size 1 (by simp)).trans (show _ = some (.int .i64 0) by simp)
        have k12 : w12.heap.size < w13.heap.size := Nat.lt_of_lt_of_le (by simp) hb13.size
        have k12n : w12.heap.size ≠ w13.heap.size := Nat.ne_of_lt k12
        have k12m : w13.heap.size ≠ w12.heap.size := (Nat.ne_of_lt k12).symm
        have k12p : w12.heap.size < w13.heap.size + 1 := Nat.lt_succ_of_lt k12
        clear hg12 gg13 hb13
        obtain ⟨hc, hf, hz⟩ := bcell hg13
        go_wp2_with fail
        clear hc hf hz
        refine (shift_is H13'.out (TQ.out _ (hg13.tr (Gr.alloc _ _)))).mono ?_
        rintro e w14 ⟨rfl, hb14⟩
        have gg14 : Gr _ _ := (Gr.alloc _ _).tr hb14
        have hg14 := Gr.tr hg13 gg14
        replace y11_0 := ((bcell gg14).1 w11.heap.size 0 k11).trans y11_0
        replace y11_1 := ((bcell gg14).1 w11.heap.size 1 k11).trans y11_1
        clear k11n k11m k11p
        replace k11 : w11.heap.size < w14.heap.size := Nat.lt_of_lt_of_le k11 gg14.size
        have k11n : w11.heap.size ≠ w14.heap.size := Nat.ne_of_lt k11
        have k11m : w14.heap.size ≠ w11.heap.size := (Nat.ne_of_lt k11).symm
        have k11p : w11.heap.size < w14.heap.size + 1 := Nat.lt_succ_of_lt k11
        replace y12_0 := ((bcell gg14).1 w12.heap.size 0 k12).trans y12_0
        replace y12_1 := ((bcell gg14).1 w12.heap.size 1 k12).trans y12_1
        clear k12n k12m k12p
        replace k12 : w12.heap.size < w14.heap.size := Nat.lt_of_lt_of_le k12 gg14.size
        have k12n : w12.heap.size ≠ w14.heap.size := Nat.ne_of_lt k12
        have k12m : w14.heap.size ≠ w12.heap.size := (Nat.ne_of_lt k12).symm
        have k12p : w12.heap.size < w14.heap.size + 1 := Nat.lt_succ_of_lt k12
        have y13_0 := ((bcell hb14).1 w13.heap.size 0 (by simp)).trans (show _ = some (.int .i64 sa) by simp)
        have y13_1 := ((bcell hb14).1 w13.heap.size 1 (by simp)).trans (show _ = some (.int .i64 sb) by simp)
        have k13 : w13.heap.size < w14.heap.size := Nat.lt_of_lt_of_le (by simp) hb14.size
        have k13n : w13.heap.size ≠ w14.heap.size := Nat.ne_of_lt k13
        have k13m : w14.heap.size ≠ w13.heap.size := (Nat.ne_of_lt k13).symm
        have k13p : w13.heap.size < w14.heap.size + 1 := Nat.lt_succ_of_lt k13
        clear hg13 gg14 hb14
        obtain ⟨hc, hf, hz⟩ := bcell hg14
        go_wp2_with fail
        clear hc hf hz
        refine (lwithin_any _ _ _ _ true hw1 _).mono ?_
        rintro e w15 ⟨rfl, hb15⟩
        have gg15 : Gr _ _ := (Gr.alloc _ _).tr hb15
        have hg15 := Gr.tr hg14 gg15
        replace y11_0 := ((bcell gg15).1 w11.heap.size 0 k11).trans y11_0
        replace y11_1 := ((bcell gg15).1 w11.heap.size 1 k11).trans y11_1
        clear k11n k11m k11p
        replace k11 : w11.heap.size < w15.heap.size := Nat.lt_of_lt_of_le k11 gg15.size
        have k11n : w11.heap.size ≠ w15.heap.size := Nat.ne_of_lt k11
        have k11m : w15.heap.size ≠ w11.heap.size := (Nat.ne_of_lt k11).symm
        have k11p : w11.heap.size < w15.heap.size + 1 := Nat.lt_succ_of_lt k11
        replace y12_0 := ((bcell gg15).1 w12.heap.size 0 k12).trans y12_0
        replace y12_1 := ((bcell gg15).1 w12.heap.size 1 k12).trans y12_1
        clear k12n k12m k12p
        replace k12 : w12.heap.size < w15.heap.size := Nat.lt_of_lt_of_le k12 gg15.size
        have k12n : w12.heap.size ≠ w15.heap.size := Nat.ne_of_lt k12
        have k12m : w15.heap.size ≠ w12.heap.size := (Nat.ne_of_lt k12).symm
        have k12p : w12.heap.size < w15.heap.size + 1 := Nat.lt_succ_of_lt k12
        replace y13_0 := ((bcell gg15).1 w13.heap.size 0 k13).trans y13_0
        replace y13_1 := ((bcell gg15).1 w13.heap.size 1 k13).trans y13_1
        clear k13n k13m k13p
        replace k13 : w13.heap.size < w15.heap.size := Nat.lt_of_lt_of_le k13 gg15.size
        have k13n : w13.heap.size ≠ w15.heap.size := Nat.ne_of_lt k13
        have k13m : w15.heap.size ≠ w13.heap.size := (Nat.ne_of_lt k13).symm
        have k13p : w13.heap.size < w15.heap.size + 1 := Nat.lt_succ_of_lt k13
        have y14_0 := ((bcell hb15).1 w14.heap.size 0 (by simp)).trans (show _ = some (.int .i64 sa') by simp)
        have y14_1 := ((bcell hb15).1 w14.heap.size 1 (by simp)).trans (show _ = some (.int .i64 sb') by simp)
        have k14 : w14.heap.size < w15.heap.size := Nat.lt_of_lt_of_le (by simp) hb15.size
        have k14n : w14.heap.size ≠ w15.heap.size := Nat.ne_of_lt k14
        have k14m : w15.heap.size ≠ w14.heap.size := (Nat.ne_of_lt k14).symm
        have k14p : w14.heap.size < w15.heap.size + 1 := Nat.lt_succ_of_lt k14
        clear hg14 gg15 hb15
        obtain ⟨hc, hf, hz⟩ := bcell hg15
        go_wp2_with fail
        refine (awake_any _).mono ?_
        rintro e wz ⟨rfl, hbz⟩
        go_wp2
        go_ret
        exact ⟨rfl, bgr (bgr HGC.out hsz hg15) (Nat.le_trans hsz hg15.size) hbz⟩
      · go_wp2_with fail
        clear hc hf hz
        refine (power_is HP.out (TH2.out _ hg10)).mono ?_
        rintro e w11 ⟨rfl, hb11⟩
        have gg11 : Gr _ _ := hb11
        have hg11 := Gr.tr hg10 gg11
        clear hg10 gg11 hb11
        obtain ⟨hc, hf, hz⟩ := bcell hg11
        go_wp2_with fail
        clear hc hf hz
        refine (power_is HQ.out (TQ.out _ (hg11.tr (Gr.alloc _ _)))).mono ?_
        rintro e w12 ⟨rfl, hb12⟩
        have gg12 : Gr _ _ := (Gr.alloc _ _).tr hb12
        have hg12 := Gr.tr hg11 gg12
        have y11_0 := ((bcell hb12).1 w11.heap.size 0 (by simp)).trans (show _ = some (.int .i64 P) by simp)
        have y11_1 := ((bcell hb12).1 w11.heap.size 1 (by simp)).trans (show _ = some (.int .i64 Q) by simp)
        have k11 : w11.heap.size < w12.heap.size := Nat.lt_of_lt_of_le (by simp) hb12.size
        have k11n : w11.heap.size ≠ w12.heap.size := Nat.ne_of_lt k11
        have k11m : w12.heap.size ≠ w11.heap.size := (Nat.ne_of_lt k11).symm
        have k11p : w11.heap.size < w12.heap.size + 1 := Nat.lt_succ_of_lt k11
        clear hg11 gg12 hb12
        obtain ⟨hc, hf, hz⟩ := bcell hg12
        go_wp2_with fail
        clear hc hf hz
        refine (shift_is H13.out (TH2.out _ (hg12.tr (Gr.alloc _ _)))).mono ?_
        rintro e w13 ⟨rfl, hb13⟩
        have gg13 : Gr _ _ := (Gr.alloc _ _).tr hb13
        have hg13 := Gr.tr hg12 gg13
        replace y11_0 := ((bcell gg13).1 w11.heap.size 0 k11).trans y11_0
        replace y11_1 := ((bcell gg13).1 w11.heap.size 1 k11).trans y11_1
        clear k11n k11m k11p
        replace k11 : w11.heap.size < w13.heap.size := Nat.lt_of_lt_of_le k11 gg13.size
        have k11n : w11.heap.size ≠ w13.heap.size := Nat.ne_of_lt k11
        have k11m : w13.heap.size ≠ w11.heap.size := (Nat.ne_of_lt k11).symm
        have k11p : w11.heap.size < w13.heap.size + 1 := Nat.lt_succ_of_lt k11
        have y12_0 := ((bcell hb13).1 w12.heap.size 0 (by simp)).trans (show _ = some (.int .i64 0) by simp)
        have y12_1 := ((bcell hb13).1 w12.heap.size 1 (by simp)).trans (show _ = some (.int .i64 0) by simp)
        have k12 : w12.heap.size < w13.heap.size := Nat.lt_of_lt_of_le (by simp) hb13.size
        have k12n : w12.heap.size ≠ w13.heap.size := Nat.ne_of_lt k12
        have k12m : w13.heap.size ≠ w12.heap.size := (Nat.ne_of_lt k12).symm
        have k12p : w12.heap.size < w13.heap.size + 1 := Nat.lt_succ_of_lt k12
        clear hg12 gg13 hb13
        obtain ⟨hc, hf, hz⟩ := bcell hg13
        go_wp2_with fail
        clear hc hf hz
        refine (shift_is H13'.out (TQ.out _ (hg13.tr (Gr.alloc _ _)))).mono ?_
        rintro e w14 ⟨rfl, hb14⟩
        have gg14 : Gr _ _ := (Gr.alloc _ _).tr hb14
        have hg14 := Gr.tr hg13 gg14
        replace y11_0 := ((bcell gg14).1 w11.heap.size 0 k11).trans y11_0
        replace y11_1 := ((bcell gg14).1 w11.heap.size 1 k11).trans y11_1
        clear k11n k11m k11p
        replace k11 : w11.heap.size < w14.heap.size := Nat.lt_of_lt_of_le k11 gg14.size
        have k11n : w11.heap.size ≠ w14.heap.size := Nat.ne_of_lt k11
        have k11m : w14.heap.size ≠ w11.heap.size := (Nat.ne_of_lt k11).symm
        have k11p : w11.heap.size < w14.heap.size + 1 := Nat.lt_succ_of_lt k11
        replace y12_0 := ((bcell gg14).1 w12.heap.size 0 k12).trans y12_0
        replace y12_1 := ((bcell gg14).1 w12.heap.size 1 k12).trans y12_1
        clear k12n k12m k12p
        replace k12 : w12.heap.size < w14.heap.size := Nat.lt_of_lt_of_le k12 gg14.size
        have k12n : w12.heap.size ≠ w14.heap.size := Nat.ne_of_lt k12
        have k12m : w14.heap.size ≠ w12.heap.size := (Nat.ne_of_lt k12).symm
        have k12p : w12.heap.size < w14.heap.size + 1 := Nat.lt_succ_of_lt k12
        have y13_0 := ((bcell hb14).1 w13.heap.size 0 (by simp)).trans (show _ = some (.int .i64 sa) by simp)
        have y13_1 := ((bcell hb14).1 w13.heap.size 1 (by simp)).trans (show _ = some (.int .i64 sb) by simp)
        have k13 : w13.heap.size < w14.heap.size := Nat.lt_of_lt_of_le (by simp) hb14.size
        have k13n : w13.heap.size ≠ w14.heap.size := Nat.ne_of_lt k13
        have k13m : w14.heap.size ≠ w13.heap.size := (Nat.ne_of_lt k13).symm
        have k13p : w13.heap.size < w14.heap.size + 1 := Nat.lt_succ_of_lt k13
        clear hg13 gg14 hb14
        obtain ⟨hc, hf, hz⟩ := bcell hg14
        go_wp2_with fail
        clear hc hf hz
        refine (lwithin_any _ _ _ _ true hw1 _).mono ?_
        rintro e w15 ⟨rfl, hb15⟩
        have gg15 : Gr _ _ := (Gr.alloc _ _).tr hb15
        have hg15 := Gr.tr hg14 gg15
        replace y11_0 := ((bcell gg15).1 w11.heap.size 0 k11).trans y11_0
        replace y11_1 := ((bcell gg15).1 w11.heap.size 1 k11).trans y11_1
        clear k11n k11m k11p
        replace k11 : w11.heap.size < w15.heap.size := Nat.lt_of_lt_of_le k11 gg15.size
        have k11n : w11.heap.size ≠ w15.heap.size := Nat.ne_of_lt k11
        have k11m : w15.heap.size ≠ w11.heap.size := (Nat.ne_of_lt k11).symm
        have k11p : w11.heap.size < w15.heap.size + 1 := Nat.lt_succ_of_lt k11
        replace y12_0 := ((bcell gg15).1 w12.heap.size 0 k12).trans y12_0
        replace y12_1 := ((bcell gg15).1 w12.heap.size 1 k12).trans y12_1
        clear k12n k12m k12p
        replace k12 : w12.heap.size < w15.heap.size := Nat.lt_of_lt_of_le k12 gg15.size
        have k12n : w12.heap.size ≠ w15.heap.size := Nat.ne_of_lt k12
        have k12m : w15.heap.size ≠ w12.heap.size := (Nat.ne_of_lt k12).symm
        have k12p : w12.heap.size < w15.heap.size + 1 := Nat.lt_succ_of_lt k12
        replace y13_0 := ((bcell gg15).1 w13.heap.size 0 k13).trans y13_0
        replace y13_1 := ((bcell gg15).1 w13.heap.size 1 k13).trans y13_1
        clear k13n k13m k13p
        replace k13 : w13.heap.size < w15.heap.size := Nat.lt_of_lt_of_le k13 gg15.size
        have k13n : w13.heap.size ≠ w15.heap.size := Nat.ne_of_lt k13
        have k13m : w15.heap.size ≠ w13.heap.size := (Nat.ne_of_lt k13).symm
        have k13p : w13.heap.size < w15.heap.size + 1 := Nat.lt_succ_of_lt k13
        have y14_0 := ((bcell hb15).1 w14.heap.size 0 (by simp)).trans (show _ = some (.int .i64 sa') by simp)
        have y14_1 := ((bcell hb15).1 w14.heap.size 1 (by simp)).trans (show _ = some (.int .i64 sb') by simp)
        have k14 : w14.heap.size < w15.heap.size := Nat.lt_of_lt_of_le (by simp) hb15.size
        have k14n : w14.heap.size ≠ w15.heap.size := Nat.ne_of_lt k14
        have k14m : w15.heap.size ≠ w14.heap.size := (Nat.ne_of_lt k14).symm
        have k14p : w14.heap.size < w15.heap.size + 1 := Nat.lt_succ_of_lt k14
        clear hg14 gg15 hb15
        obtain ⟨hc, hf, hz⟩ := bcell hg15
        go_wp2_with fail
        refine (awake_any _).mono ?_
        rintro e wz ⟨rfl, hbz⟩
        go_wp2
        go_ret
        exact ⟨rfl, bgr (bgr HGC.out hsz hg15) (Nat.le_trans hsz hg15.size) hbz⟩
end Go.Proofs.Ytofdoadpaedogaa
