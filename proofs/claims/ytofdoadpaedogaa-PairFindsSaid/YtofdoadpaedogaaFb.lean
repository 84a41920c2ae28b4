import Derived.Test.YtofdoadpaedogaaFe
import Derived.Test.YtofdoadpaedogaaFf
import Derived.Test.YtofdoadpaedogaaK2
namespace Go.Proofs.Ytofdoadpaedogaa
open Go.RowKit

theorem Pr.at_th4 {p : Pr} {k : Int} {s : Sg} (h : p.at k = some s) : ∃ (n : Nat) (t : Th), k = n ∧ p.l[n]? = some t ∧ s = t.see p.ti p.ne p.fa := by
  obtain ⟨n, e, hn⟩ := Pr.at_some h
  unfold Pr.seen seenOf at hn
  rw [List.getElem?_map] at hn
  cases hl : p.l[n]? with
  | none => rw [hl] at hn; cases hn
  | some t => rw [hl] at hn; exact ⟨n, t, e, hl, (Option.some.inj hn).symm⟩
theorem Pr.seen_len4 (p : Pr) : p.seen.length = p.l.length := by unfold Pr.seen seenOf; simp
theorem Pr.at_no4 {p : Pr} {len : Nat} (hl : p.l.length = len) {k : Int} (h : p.at k = none) : (decide (0 ≤ k) && decide (k < (len : Int))) = false := by
  have := Pr.at_none h
  rw [p.seen_len4, hl] at this
  simp; omega
theorem Pr.at_yes4 {p : Pr} {len : Nat} (hl : p.l.length = len) {n : Nat} {t : Th} (h : p.l[n]? = some t) : n < len ∧ (decide (0 ≤ (n : Int)) && decide ((n : Int) < (len : Int))) = true := by
  have := (List.getElem?_eq_some_iff.1 h).1
  exact ⟨by omega, by simp; omega⟩
/-- A thing can stand still with one of the powers just if some power leaves it standing. -/
theorem why_some {p : Pr} (h : p.ok = true) {t : Th} (ht : t ∈ p.l) {P Q : Int} (hPQ : P ≤ Q) : (t.see p.ti p.ne p.fa).why P Q = 0 ↔ ∃ x, P ≤ x ∧ x ≤ Q ∧ (t.see p.ti p.ne p.fa).why x x = 0 := by
  have hb := p.bounds h
  have hlh := Th.lohi h ht
  have hne := hb.ne0
  have hnf := hb.ne1
  constructor
  · intro hw
    obtain ⟨z0, z1, z2, z3, z4⟩ := Sg.why_zero hw
    have u0 : 0 ≤ (t.see p.ti p.ne p.fa).st.1 := by rw [(t.see p.ti p.ne p.fa).st_eq]; simp only; split <;> omega
    have u1 : (t.see p.ti p.ne p.fa).st.1 ≤ (t.see p.ti p.ne p.fa).st.2 := by rw [(t.see p.ti p.ne p.fa).st_eq]; simp only; split <;> split <;> omega
    have hpp : (t.see p.ti p.ne p.fa).pw.1 ≤ (t.see p.ti p.ne p.fa).pw.2 := by
      by_cases hz : t.z = 0
      · have hp : (t.see p.ti p.ne p.fa).pw = ((t.see p.ti p.ne p.fa).st.1 * p.ne, ((t.see p.ti p.ne p.fa).st.2 + 1) * p.fa - 1) := by unfold Sg.pw; rw [Th.far hz]; rfl
        rw [hp]
        have a1 : (t.see p.ti p.ne p.fa).st.1 * p.ne ≤ (t.see p.ti p.ne p.fa).st.2 * p.fa := Int.mul_le_mul u1 hnf (by omega) (by omega)
        simp only; rw [Int.add_mul]; omega
      · have hzz := (hb.things t ht).2
        have hw' : (t.see p.ti p.ne p.fa).wit = .mark t.z := by simp [Th.see, Th.wit, hz]
        have hp : (t.see p.ti p.ne p.fa).pw = ((t.see p.ti p.ne p.fa).st.1 * t.z, ((t.see p.ti p.ne p.fa).st.2 + 1) * t.z - 1) := by unfold Sg.pw; rw [hw']; rfl
        rw [hp]
        have a1 : (t.see p.ti p.ne p.fa).st.1 * t.z ≤ (t.see p.ti p.ne p.fa).st.2 * t.z := Int.mul_le_mul_of_nonneg_right u1 (by omega)
        simp only; rw [Int.add_mul]; omega
    by_cases c : P ≤ (t.see p.ti p.ne p.fa).pw.1
    · exact ⟨_, c, z3, (Sg.stands_iff _ _).2 ⟨z0, z1, z2, Int.le_refl _, hpp⟩⟩
    · exact ⟨P, Int.le_refl _, hPQ, (Sg.stands_iff _ _).2 ⟨z0, z1, z2, by omega, z4⟩⟩
  · rintro ⟨x, h1, h2, hx⟩
    obtain ⟨z0, z1, z2, z3, z4⟩ := (Sg.stands_iff _ _).1 hx
    refine Sg.why5 (by simp [z0]) (by omega) ?_ (by omega)
    unfold Sg.tooNear
    simp only [Bool.or_eq_true, decide_eq_true_eq]
    omega
theorem ovl_why {p : Pr} (h : p.ok = true) {t : Th} (ht : t ∈ p.l) {P Q : Int} (hPQ : P ≤ Q) : decide ((ovl (P, Q) (rpw p.ti p.ne p.fa t)).2 < (ovl (P, Q) (rpw p.ti p.ne p.fa t)).1) = !decide ((t.see p.ti p.ne p.fa).why P Q = 0) := by
  have hw := why_some h ht hPQ
  have hx := fun x => rpw_stands h ht (x := x)
  have key : (ovl (P, Q) (rpw p.ti p.ne p.fa t)).1 ≤ (ovl (P, Q) (rpw p.ti p.ne p.fa t)).2 ↔ (t.see p.ti p.ne p.fa).why P Q = 0 := by
    rw [hw]
    constructor
    · intro hc
      refine ⟨(ovl (P, Q) (rpw p.ti p.ne p.fa t)).1, ?_, ?_, (hx _).1 ⟨?_, ?_⟩⟩ <;> revert hc <;> unfold ovl <;> simp only <;> split <;> split <;> omega
    · rintro ⟨x, h1, h2, h3⟩
      have := (hx x).2 h3
      unfold ovl; simp only; split <;> split <;> omega
  by_cases c : (t.see p.ti p.ne p.fa).why P Q = 0
  · rw [decide_eq_true c]
    have := key.2 c
    exact decide_eq_false (by omega)
  · rw [decide_eq_false c]
    exact decide_eq_true (Int.not_le.1 fun d => c (key.1 d))
theorem hpt_of {p : Pr} (h : p.ok = true) {t : Th} (ht : t ∈ p.l) : Hid (∀ (v : Value) (w : World), Calls Try.prog 59 #[.agg #[.int .i64 p.fl, .int .i64 p.fh, .int .i64 p.bl, .int .i64 p.bh, .int .i64 p.ti, .int .i64 p.ne, .int .i64 p.fa, v], .agg #[.int .i64 t.a, .int .i64 t.b, .int .i64 t.c, .int .i64 t.d, .int .i64 t.e, .int .i64 t.f, .int .i64 t.g, .int .i64 t.h, .int .i64 t.z]] w fun e w' => e = .returned (.agg #[.int .i64 (rpw p.ti p.ne p.fa t).1, .int .i64 (rpw p.ti p.ne p.fa t).2]) ∧ Below w.heap.size w w') := by
  have hb := p.bounds h
  exact Lib.hid fun v w => rpow_any p.fl p.fh p.bl p.bh p.ti p.ne p.fa v t w (hb.things t ht).1 ⟨hb.ti0, hb.ti1⟩ ⟨by have := hb.ne0; omega, by have := hb.ne1; have := hb.fa1; omega⟩ ⟨by have := hb.ne0; have := hb.ne1; omega, hb.fa1⟩ ⟨by have := (hb.things t ht).2; have := hb.ne0; omega, by have := (hb.things t ht).2; have := hb.fa1; omega⟩
theorem ropen_pw {p : Pr} (h : p.ok = true) (hp : p.pw.1 ≤ p.pw.2) : p.ropen true = (p.pw.1, p.pw.2, 0) := by rw [Pr.ropen_true]; unfold Pr.power; rw [if_pos h, if_pos hp]
theorem ropen_no {p : Pr} (h : p.ok = true) (hp : ¬ p.pw.1 ≤ p.pw.2) : p.ropen true = (0, 0, 4) := by rw [Pr.ropen_true]; unfold Pr.power; rw [if_pos h, if_neg hp]
theorem ropen_badp {p : Pr} (h : p.ok = false) (b : Bool) : p.ropen b = (0, 0, 1) := by unfold Pr.ropen; rw [if_neg (by simp [h])]
theorem ropen_rng {p : Pr} (h : p.ok = true) : p.ropen false = (0, 0, 2) := by unfold Pr.ropen; rw [if_pos h]; rfl
theorem rwhy_is {p : Pr} {sp : Option Addr} {len cap : Nat} {k y e : Int} {w : World} (h : p.why k = (y, e)) (hl : len ≤ 1000) (hlen : p.l.length = len) (hT : ThingsAt p.l (.slice sp len cap) w) :
    Calls Try.prog 22 #[.agg #[.int .i64 p.fl, .int .i64 p.fh, .int .i64 p.bl, .int .i64 p.bh, .int .i64 p.ti, .int .i64 p.ne, .int .i64 p.fa, .slice sp len cap], .int .i64 k] w fun e' w' => e' = .returned (.tuple #[.int .i64 y, .int .i64 e]) ∧ Below w.heap.size w w' := by
  unfold Pr.why at h
  cases hok : p.ok with
  | false => rw [if_neg (by simp [hok])] at h; cases h; exact rwhy_err p sp len cap k _ 0 0 1 w hT hl (Lib.hid rfl) (Lib.hid (ropen_badp hok _)) rfl
  | true =>
    rw [if_pos hok] at h
    cases hk : p.at k with
    | none => rw [hk] at h; cases h; exact rwhy_err p sp len cap k false 0 0 2 w hT hl (Lib.hid (Pr.at_no4 hlen hk)) (Lib.hid (ropen_rng hok)) rfl
    | some s =>
      rw [hk] at h
      simp only at h
      obtain ⟨n, t, rfl, hn, rfl⟩ := Pr.at_th4 hk
      obtain ⟨h1, h2⟩ := Pr.at_yes4 hlen hn
      by_cases hp : p.pw.1 ≤ p.pw.2
      · rw [if_pos hp] at h
        cases h
        have ht := List.mem_of_getElem? hn
        have hb := p.bounds hok
        have hin := p.pw_in hok
        have hov := ovl_why hok ht hp
        have hcl := Pr.why_is hok hp ht
        simp only at hcl
        obtain ⟨ba, bb, -, bd, be, bf, -, bh⟩ := (hb.things t ht).1
        have bt : 0 ≤ p.ti ∧ p.ti ≤ 1000 := ⟨hb.ti0, hb.ti1⟩
        have bn : 0 ≤ p.ne ∧ p.ne ≤ 1073741824 := ⟨by have := hb.ne0; omega, by have := hb.ne1; have := hb.fa1; omega⟩
        have hne := hb.ne0
        have elo : (t.see p.ti p.ne p.fa).lo = t.a - t.f := rfl
        have ehi : (t.see p.ti p.ne p.fa).hi = t.b - t.e := rfl
        rw [elo, ehi] at hcl
        have hq0 : 0 ≤ p.pw.2 / p.ne := Int.ediv_nonneg (by omega) (by omega)
        have hnear : (2000 < imax 0 (t.a - t.f) ∨ p.pw.2 / p.ne < imax 0 (t.a - t.f)) ↔ (2000 < t.a - t.f ∨ p.pw.2 < (t.a - t.f) * p.ne) := by
          rw [Int.ediv_lt_iff_lt_mul (by omega)]
          unfold imax
          by_cases c : 0 < t.a - t.f
          · rw [if_pos c]
          · rw [if_neg c]
            have : (t.a - t.f) * p.ne ≤ 0 * p.ne := Int.mul_le_mul_of_nonneg_right (by omega) (by omega)
            omega
        rw [hnear] at hcl
        generalize (t.see p.ti p.ne p.fa).why p.pw.1 p.pw.2 = y at *
        have lv : ∀ {r : Prop} [Decidable r], True := trivial
        rcases hcl with ⟨hy, -⟩ | ⟨hy, hr⟩ | ⟨hy, hr, hh⟩ | ⟨hy, hr, hh, hnr, -⟩ | ⟨hy, hr, hh, hnr, -⟩
        · subst hy
          exact rwhy_stood p sp len cap n t.a t.b t.c t.d t.e t.f t.g t.h t.z p.pw.1 p.pw.2 (rpw p.ti p.ne p.fa t).1 (rpw p.ti p.ne p.fa t).2 w hT hl (Lib.hid h2) h1 (Lib.hid hn) (Lib.hid (ropen_pw hok hp)) (hpt_of hok ht) hov
        · subst hy
          exact rwhy_rows p sp len cap n t.a t.b t.c t.d t.e t.f t.g t.h t.z p.pw.1 p.pw.2 (rpw p.ti p.ne p.fa t).1 (rpw p.ti p.ne p.fa t).2 w hT hl (Lib.hid h2) h1 (Lib.hid hn) (Lib.hid (ropen_pw hok hp)) (hpt_of hok ht) hov bd bh bt (by simp; omega)
        · subst hy
          exact rwhy_behind p sp len cap n t.a t.b t.c t.d t.e t.f t.g t.h t.z p.pw.1 p.pw.2 (rpw p.ti p.ne p.fa t).1 (rpw p.ti p.ne p.fa t).2 w hT hl (Lib.hid h2) h1 (Lib.hid hn) (Lib.hid (ropen_pw hok hp)) (hpt_of hok ht) hov bd bh bt (by simp; omega) ba bb be bf bn (decide_eq_true hh)
        · subst hy
          by_cases c : 2000 < t.a - t.f
          · exact rwhy_near1 p sp len cap n t.a t.b t.c t.d t.e t.f t.g t.h t.z p.pw.1 p.pw.2 (rpw p.ti p.ne p.fa t).1 (rpw p.ti p.ne p.fa t).2 w hT hl (Lib.hid h2) h1 (Lib.hid hn) (Lib.hid (ropen_pw hok hp)) (hpt_of hok ht) hov bd bh bt (by simp; omega) ba bb be bf bn (decide_eq_false (by omega)) (decide_eq_true c)
          · exact rwhy_near2 p sp len cap n t.a t.b t.c t.d t.e t.f t.g t.h t.z p.pw.1 p.pw.2 (rpw p.ti p.ne p.fa t).1 (rpw p.ti p.ne p.fa t).2 w hT hl (Lib.hid h2) h1 (Lib.hid hn) (Lib.hid (ropen_pw hok hp)) (hpt_of hok ht) hov bd bh bt (by simp; omega) ba bb be bf bn (decide_eq_false (by omega)) (decide_eq_false c) (decide_eq_true (hnr.resolve_left c))
        · subst hy
          exact rwhy_far p sp len cap n t.a t.b t.c t.d t.e t.f t.g t.h t.z p.pw.1 p.pw.2 (rpw p.ti p.ne p.fa t).1 (rpw p.ti p.ne p.fa t).2 w hT hl (Lib.hid h2) h1 (Lib.hid hn) (Lib.hid (ropen_pw hok hp)) (hpt_of hok ht) hov bd bh bt (by simp; omega) ba bb be bf bn (decide_eq_false (by omega)) (decide_eq_false fun c => hnr (.inl c)) (decide_eq_false fun c => hnr (.inr c))
      · rw [if_neg hp] at h
        cases h
        exact rwhy_err p sp len cap n true 0 0 4 w hT hl (Lib.hid h2) (Lib.hid (ropen_no hok hp)) rfl
theorem rdistance_is {p : Pr} {sp : Option Addr} {len cap : Nat} {k x y e : Int} {w : World} (h : p.distance k = (x, y, e)) (hl : len ≤ 1000) (hlen : p.l.length = len) (hT : ThingsAt p.l (.slice sp len cap) w) :
    Calls Try.prog 24 #[.agg #[.int .i64 p.fl, .int .i64 p.fh, .int .i64 p.bl, .int .i64 p.bh, .int .i64 p.ti, .int .i64 p.ne, .int .i64 p.fa, .slice sp len cap], .int .i64 k] w fun e' w' => e' = .returned (.tuple #[.agg #[.int .i64 x, .int .i64 y], .int .i64 e]) ∧ Below w.heap.size w w' := by
  unfold Pr.distance at h
  cases hok : p.ok with
  | false => rw [if_neg (by simp [hok])] at h; cases h; exact rdist_err p sp len cap k _ 0 0 1 w hT hl (Lib.hid rfl) (Lib.hid (ropen_badp hok _)) rfl
  | true =>
    rw [if_pos hok] at h
    cases hk : p.at k with
    | none => rw [hk] at h; cases h; exact rdist_err p sp len cap k false 0 0 2 w hT hl (Lib.hid (Pr.at_no4 hlen hk)) (Lib.hid (ropen_rng hok)) rfl
    | some s =>
      rw [hk] at h
      simp only at h
      obtain ⟨n, t, rfl, hn, rfl⟩ := Pr.at_th4 hk
      obtain ⟨h1, h2⟩ := Pr.at_yes4 hlen hn
      by_cases hp : p.pw.1 ≤ p.pw.2
      · rw [if_pos hp] at h
        have ht := List.mem_of_getElem? hn
        have hb := p.bounds hok
        have hin := p.pw_in hok
        have hov := ovl_why hok ht hp
        obtain ⟨ba, bb, -, bd, be, bf, -, bh⟩ := (hb.things t ht).1
        have hlh := Th.lohi hok ht
        by_cases hw : (t.see p.ti p.ne p.fa).why p.pw.1 p.pw.2 = 0
        · rw [if_pos hw] at h
          rw [decide_eq_true hw] at hov
          by_cases hz : t.z = 0
          · obtain ⟨-, z1, z2, -, -⟩ := Sg.why_zero hw
            rw [Sg.dists_far (Th.far hz), dist_fst, dist_snd] at h
            have hst : ovl (t.a - t.f, t.b - t.e) (0, 2000) = ((t.see p.ti p.ne p.fa).st.1, (t.see p.ti p.ne p.fa).st.2) := rfl
            have c0 : 0 ≤ (t.see p.ti p.ne p.fa).st.2 := by rw [(t.see p.ti p.ne p.fa).st_eq]; simp only; split <;> omega
            have c1 : (t.see p.ti p.ne p.fa).st.2 ≤ 2000 := by rw [(t.see p.ti p.ne p.fa).st_eq]; simp only; split <;> omega
            have u0 : 0 ≤ (t.see p.ti p.ne p.fa).st.1 := by rw [(t.see p.ti p.ne p.fa).st_eq]; simp only; split <;> omega
            generalize (t.see p.ti p.ne p.fa).st.1 = s1 at *
            generalize (t.see p.ti p.ne p.fa).st.2 = s2 at *
            by_cases hu : 0 < s1
            · rw [if_pos hu] at h
              cases h
              exact rdist_far1 p sp len cap n t.a t.b t.c t.d t.e t.f t.g t.h t.z p.pw.1 p.pw.2 (rpw p.ti p.ne p.fa t).1 (rpw p.ti p.ne p.fa t).2 w hT hl (Lib.hid h2) h1 (Lib.hid hn) (Lib.hid (ropen_pw hok hp)) (hpt_of hok ht) hov (by simp [hz]) ba bb be bf (by omega) (by omega) (by omega) (by omega) s1 s2 hst c0 c1 hu
            · rw [if_neg hu, if_neg (Int.lt_irrefl _)] at h
              cases h
              exact rdist_far0 p sp len cap n t.a t.b t.c t.d t.e t.f t.g t.h t.z p.pw.1 p.pw.2 (rpw p.ti p.ne p.fa t).1 (rpw p.ti p.ne p.fa t).2 w hT hl (Lib.hid h2) h1 (Lib.hid hn) (Lib.hid (ropen_pw hok hp)) (hpt_of hok ht) hov (by simp [hz]) ba bb be bf (by omega) (by omega) (by omega) (by omega) s1 s2 hst c0 c1 (by omega)
          · have hwit : (t.see p.ti p.ne p.fa).wit = .mark t.z := by simp [Th.see, Th.wit, hz]
            rw [Sg.dists_mark hwit] at h
            cases h
            exact rdist_mark p sp len cap n t.a t.b t.c t.d t.e t.f t.g t.h t.z p.pw.1 p.pw.2 (rpw p.ti p.ne p.fa t).1 (rpw p.ti p.ne p.fa t).2 w hT hl (Lib.hid h2) h1 (Lib.hid hn) (Lib.hid (ropen_pw hok hp)) (hpt_of hok ht) hov (by simpa using hz)
        · rw [if_neg hw] at h
          cases h
          rw [decide_eq_false hw] at hov
          exact rdist_refuse p sp len cap n t.a t.b t.c t.d t.e t.f t.g t.h t.z p.pw.1 p.pw.2 (rpw p.ti p.ne p.fa t).1 (rpw p.ti p.ne p.fa t).2 w hT hl (Lib.hid h2) h1 (Lib.hid hn) (Lib.hid (ropen_pw hok hp)) (hpt_of hok ht) hov
      · rw [if_neg hp] at h
        cases h
        exact rdist_err p sp len cap n true 0 0 4 w hT hl (Lib.hid h2) (Lib.hid (ropen_no hok hp)) rfl
theorem rfewest_is {p : Pr} {v : Value} {m x y e : Int} {w : World} (h : p.fewest = (m, x, y, e)) (hT : ThingsAt p.l v w) :
    Calls Try.prog 26 #[.agg #[.int .i64 p.fl, .int .i64 p.fh, .int .i64 p.bl, .int .i64 p.bh, .int .i64 p.ti, .int .i64 p.ne, .int .i64 p.fa, v]] w fun e' w' => e' = .returned (.tuple #[.int .i64 m, .agg #[.int .i64 x, .int .i64 y], .int .i64 e]) ∧ Below w.heap.size w w' := by
  cases hok : p.ok with
  | false =>
    unfold Pr.fewest at h
    rw [if_neg (by simp [hok])] at h
    cases h
    exact rfewest_err p v w 1 rfl (Lib.hid (ropen_badp hok _)) hT
  | true =>
    by_cases hp : p.pw.1 ≤ p.pw.2
    · obtain ⟨b, hb, hbest, hf⟩ := Pr.fewest_ref hok hp
      rw [hf] at h
      cases h
      exact rfewest_ok p v w p.pw.1 p.pw.2 b hok (Lib.hid (ropen_pw hok hp)) hb hbest hT
    · unfold Pr.fewest at h
      rw [if_pos hok, if_neg hp] at h
      cases h
      exact rfewest_err p v w 4 rfl (Lib.hid (ropen_no hok hp)) hT
set_option maxRecDepth 100000 in
set_option maxHeartbeats 4000000 in
theorem finds_many (p : Pr) (sp : Option Addr) (len cap : Nat) (n : Int) (w : World) (hl : 40 < len) :
    Calls Try.prog 4 #[.agg #[.int .i64 p.fl, .int .i64 p.fh, .int .i64 p.bl, .int .i64 p.bh, .int .i64 p.ti, .int .i64 p.ne, .int .i64 p.fa, .slice sp len cap], .int .i64 n] w fun e w' => e = .returned (.bool true) ∧ Below w.heap.size w w' := by
  have d : decide (40 < (len : Int)) = true := by simp; omega
  have d' : decide (40 < len) = true := by simp; omega
  clear hl
  go_enter Try.func4, Try.ntmps4
  go_wp2_with fail
  refine (awake_any _).mono ?_
  rintro e w1 ⟨rfl, hb1⟩
  go_wp2
  go_ret
  exact ⟨rfl, (bgr ((Below.refl _ _).alloc (by first | (simp; done) | (simp; omega) | omega) _) (by first | (simp; done) | (simp; omega) | omega) hb1)⟩
set_option maxRecDepth 100000 in
set_option maxHeartbeats 4000000 in
theorem finds_all (p : Pr) (sp : Option Addr) (len cap : Nat) (n : Int) (w : World) (hl : len ≤ 40) (hT : ThingsAt p.l (.slice sp len cap) w) (hlen : p.l.length = len) (y ye d1 d2 de m f1 f2 fe : Int) (h1 : Hid (p.why n = (y, ye))) (h2 : Hid (p.distance n = (d1, d2, de))) (h3 : Hid (p.fewest = (m, f1, f2, fe))) :
    Calls Try.prog 4 #[.agg #[.int .i64 p.fl, .int .i64 p.fh, .int .i64 p.bl, .int .i64 p.bh, .int .i64 p.ti, .int .i64 p.ne, .int .i64 p.fa, .slice sp len cap], .int .i64 n] w fun e w' => e = .returned (.bool true) ∧ Below w.heap.size w w' := by
  have d : decide (40 < (len : Int)) = false := by simp; omega
  have d' : decide (40 < len) = false := by simp; omega
  have TH := Lib.hid (fun (W : World) (hg : Gr (w.alloc (.cells #[.int .i64 p.fl, .int .i64 p.fh, .int .i64 p.bl, .int .i64 p.bh, .int .i64 p.ti, .int .i64 p.ne, .int .i64 p.fa, .slice sp len cap] 26)) W) => ThingsAt.lasts p.l _ _ _ hT ((Gr.alloc _ _).tr hg))
  have hg0 := Gr.same (w.alloc (.cells #[.int .i64 p.fl, .int .i64 p.fh, .int .i64 p.bl, .int .i64 p.bh, .int .i64 p.ti, .int .i64 p.ne, .int .i64 p.fa, .slice sp len cap] 26))
  have HL := Lib.hid hlen
  have hl2 := hl
  have heq := @eq23
  have heg := @eqg23
  clear hT hl hlen
  go_enter Try.func4, Try.ntmps4
  go_wp2_with fail
  refine (why_is h1.out (TH.out _ hg0)).mono ?_
  rintro e w1 ⟨rfl, hb1⟩
  have gg1 : Gr _ _ := hb1
  have hg1 := Gr.tr hg0 gg1
  obtain ⟨hc, hf, hz⟩ := bcell hg1
  go_wp2_with fail
  clear hc hf hz
  refine (rwhy_is h1.out (by omega) HL.out (TH.out _ hg1)).mono ?_
  rintro e w2 ⟨rfl, hb2⟩
  have gg2 : Gr _ _ := hb2
  have hg2 := Gr.tr hg1 gg2
  obtain ⟨hc, hf, hz⟩ := bcell hg2
  go_wp2_with fail
  clear hc hf hz
  refine (distance_is h2.out (TH.out _ hg2)).mono ?_
  rintro e w3 ⟨rfl, hb3⟩
  have gg3 : Gr _ _ := hb3
  have hg3 := Gr.tr hg2 gg3
  obtain ⟨hc, hf, hz⟩ := bcell hg3
  go_wp2_with fail
  clear hc hf hz
  refine (rdistance_is h2.out (by omega) HL.out (TH.out _ (hg3.tr (Gr.alloc _ _)))).mono ?_
  rintro e w4 ⟨rfl, hb4⟩
  have gg4 : Gr _ _ := (Gr.alloc _ _).tr hb4
  have hg4 := Gr.tr hg3 gg4
  have y3_0 := ((bcell hb4).1 w3.heap.size 0 (by simp)).trans (show _ = some (.int .i64 d1) by simp)
  have y3_1 := ((bcell hb4).1 w3.heap.size 1 (by simp)).trans (show _ = some (.int .i64 d2) by simp)
  have k3 : w3.heap.size < w4.heap.size := Nat.lt_of_lt_of_le (by simp) hb4.size
  have k3n : w3.heap.size ≠ w4.heap.size := Nat.ne_of_lt k3
  have k3m : w4.heap.size ≠ w3.heap.size := (Nat.ne_of_lt k3).symm
  have k3p : w3.heap.size < w4.heap.size + 1 := Nat.lt_succ_of_lt k3
  obtain ⟨hc, hf, hz⟩ := bcell hg4
  go_wp2_with fail
  clear hc hf hz
  refine (fewest_is h3.out (TH.out _ (hg4.tr (Gr.alloc _ _)))).mono ?_
  rintro e w5 ⟨rfl, hb5⟩
  have gg5 : Gr _ _ := (Gr.alloc _ _).tr hb5
  have hg5 := Gr.tr hg4 gg5
  have y3_0 := ((bcell gg5).1 w3.heap.size 0 k3).trans y3_0
  have y3_1 := ((bcell gg5).1 w3.heap.size 1 k3).trans y3_1
  replace k3 : w3.heap.size < w5.heap.size := Nat.lt_of_lt_of_le k3 gg5.size
  have k3n : w3.heap.size ≠ w5.heap.size := Nat.ne_of_lt k3
  have k3m : w5.heap.size ≠ w3.heap.size := (Nat.ne_of_lt k3).symm
  have k3p : w3.heap.size < w5.heap.size + 1 := Nat.lt_succ_of_lt k3
  have y4_0 := ((bcell hb5).1 w4.heap.size 0 (by simp)).trans (show _ = some (.int .i64 d1) by simp)
  have y4_1 := ((bcell hb5).1 w4.heap.size 1 (by simp)).trans (show _ = some (.int .i64 d2) by simp)
  have k4 : w4.heap.size < w5.heap.size := Nat.lt_of_lt_of_le (by simp) hb5.size
  have k4n : w4.heap.size ≠ w5.heap.size := Nat.ne_of_lt k4
  have k4m : w5.heap.size ≠ w4.heap.size := (Nat.ne_of_lt k4).symm
  have k4p : w4.heap.size < w5.heap.size + 1 := Nat.lt_succ_of_lt k4
  obtain ⟨hc, hf, hz⟩ := bcell hg5
  go_wp2_with fail
  clear hc hf hz
  refine (rfewest_is h3.out (TH.out _ (hg5.tr (Gr.alloc _ _)))).mono ?_
  rintro e w6 ⟨rfl, hb6⟩
  have gg6 : Gr _ _ := (Gr.alloc _ _).tr hb6
  have hg6 := Gr.tr hg5 gg6
  have y3_0 := ((bcell gg6).1 w3.heap.size 0 k3).trans y3_0
  have y3_1 := ((bcell gg6).1 w3.heap.size 1 k3).trans y3_1
  replace k3 : w3.heap.size < w6.heap.size := Nat.lt_of_lt_of_le k3 gg6.size
  have k3n : w3.heap.size ≠ w6.heap.size := Nat.ne_of_lt k3
  have k3m : w6.heap.size ≠ w3.heap.size := (Nat.ne_of_lt k3).symm
  have k3p : w3.heap.size < w6.heap.size + 1 := Nat.lt_succ_of_lt k3
  have y4_0 := ((bcell gg6).1 w4.heap.size 0 k4).trans y4_0
  have y4_1 := ((bcell gg6).1 w4.heap.size 1 k4).trans y4_1
  replace k4 : w4.heap.size < w6.heap.size := Nat.lt_of_lt_of_le k4 gg6.size
  have k4n : w4.heap.size ≠ w6.heap.size := Nat.ne_of_lt k4
  have k4m : w6.heap.size ≠ w4.heap.size := (Nat.ne_of_lt k4).symm
  have k4p : w4.heap.size < w6.heap.size + 1 := Nat.lt_succ_of_lt k4
  have y5_0 := ((bcell hb6).1 w5.heap.size 0 (by simp)).trans (show _ = some (.int .i64 f1) by simp)
  have y5_1 := ((bcell hb6).1 w5.heap.size 1 (by simp)).trans (show _ = some (.int .i64 f2) by simp)
  have k5 : w5.heap.size < w6.heap.size := Nat.lt_of_lt_of_le (by simp) hb6.size
  have k5n : w5.heap.size ≠ w6.heap.size := Nat.ne_of_lt k5
  have k5m : w6.heap.size ≠ w5.heap.size := (Nat.ne_of_lt k5).symm
  have k5p : w5.heap.size < w6.heap.size + 1 := Nat.lt_succ_of_lt k5
  obtain ⟨hc, hf, hz⟩ := bcell hg6
  go_wp2_with fail
  clear hc hf hz
  refine (awake_any _).mono ?_
  rintro e w7 ⟨rfl, hb7⟩
  have gg7 : Gr _ _ := (Gr.alloc _ _).tr hb7
  have hg7 := Gr.tr hg6 gg7
  have y3_0 := ((bcell gg7).1 w3.heap.size 0 k3).trans y3_0
  have y3_1 := ((bcell gg7).1 w3.heap.size 1 k3).trans y3_1
  replace k3 : w3.heap.size < w7.heap.size := Nat.lt_of_lt_of_le k3 gg7.size
  have k3n : w3.heap.size ≠ w7.heap.size := Nat.ne_of_lt k3
  have k3m : w7.heap.size ≠ w3.heap.size := (Nat.ne_of_lt k3).symm
  have k3p : w3.heap.size < w7.heap.size + 1 := Nat.lt_succ_of_lt k3
  have y4_0 := ((bcell gg7).1 w4.heap.size 0 k4).trans y4_0
  have y4_1 := ((bcell gg7).1 w4.heap.size 1 k4).trans y4_1
  replace k4 : w4.heap.size < w7.heap.size := Nat.lt_of_lt_of_le k4 gg7.size
  have k4n : w4.heap.size ≠ w7.heap.size := Nat.ne_of_lt k4
  have k4m : w7.heap.size ≠ w4.heap.size := (Nat.ne_of_lt k4).symm
  have k4p : w4.heap.size < w7.heap.size + 1 := Nat.lt_succ_of_lt k4
  have y5_0 := ((bcell gg7).1 w5.heap.size 0 k5).trans y5_0
  have y5_1 := ((bcell gg7).1 w5.heap.size 1 k5).trans y5_1
  replace k5 : w5.heap.size < w7.heap.size := Nat.lt_of_lt_of_le k5 gg7.size
  have k5n : w5.heap.size ≠ w7.heap.size := Nat.ne_of_lt k5
  have k5m : w7.heap.size ≠ w5.heap.size := (Nat.ne_of_lt k5).symm
  have k5p : w5.heap.size < w7.heap.size + 1 := Nat.lt_succ_of_lt k5
  have y6_0 := ((bcell hb7).1 w6.heap.size 0 (by simp)).trans (show _ = some (.int .i64 f1) by simp)
  have y6_1 := ((bcell hb7).1 w6.heap.size 1 (by simp)).trans (show _ = some (.int .i64 f2) by simp)
  have k6 : w6.heap.size < w7.heap.size := Nat.lt_of_lt_of_le (by simp) hb7.size
  have k6n : w6.heap.size ≠ w7.heap.size := Nat.ne_of_lt k6
  have k6m : w7.heap.size ≠ w6.heap.size := (Nat.ne_of_lt k6).symm
  have k6p : w6.heap.size < w7.heap.size + 1 := Nat.lt_succ_of_lt k6
  obtain ⟨hc, hf, hz⟩ := bcell hg7
  go_wp2
  go_ret
  exact ⟨rfl, bgr ((Below.refl _ _).alloc (Nat.le_refl _) _) (by first | (simp; done) | (simp; omega) | omega) hg7⟩
end Go.Proofs.Ytofdoadpaedogaa
