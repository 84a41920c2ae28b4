import Derived.Test.YtcngaohfemdfjaaGreatE33
import Derived.Test.YtcngaohfemdfjaaGreatE34
set_option linter.unusedVariables false
set_option linter.unusedSimpArgs false
set_option maxRecDepth 100000
set_option maxHeartbeats 60000000
namespace Go.Proofs.YtcngaohfemdfjaaGreat
open Go.RowKit Go.Shelf
attribute [local go_sem] Oper.semAt_some
theorem Sg.why_zero {s : Sg} {plo phi : Int} (h : s.why plo phi = 0) : s.sl = false ∧ 0 ≤ s.hi ∧ s.lo ≤ 2000 ∧ s.pw.1 ≤ phi ∧ plo ≤ s.pw.2 := by
  unfold Sg.why at h
  split at h
  · cases h
  · rename_i h0
    split at h
    · cases h
    · rename_i h1
      split at h
      · cases h
      · rename_i h2
        split at h
        · cases h
        · rename_i h3
          simp [Sg.reason, Sg.tooNear] at h0 h1 h2 h3
          exact ⟨h0, h1, h2.1, h2.2, h3⟩
theorem Sg.why_mark {s : Sg} {m plo phi : Int} (hw : s.wit = .mark m) (h1 : s.sl = false) (h2 : 0 ≤ s.hi) (h3 : s.lo ≤ 2000) (h4 : s.st.1 * m ≤ phi) (h5 : plo ≤ (s.st.2 + 1) * m - 1) : s.why plo phi = 0 := by
  have e : s.pw = (s.st.1 * m, (s.st.2 + 1) * m - 1) := by unfold Sg.pw; rw [hw]; rfl
  refine why_none fun j hj => ?_
  match j, hj with
  | 0, _ => exact h1
  | 1, _ => exact decide_eq_false (by omega)
  | 2, _ => exact Bool.or_eq_false_iff.2 ⟨decide_eq_false (by omega), decide_eq_false (by rw [e]; simp only; omega)⟩
  | 3, _ => exact decide_eq_false (by rw [e]; simp only; omega)
theorem Pr.mark_why {p : Pr} (h : p.ok = true) (hp : p.pw.1 ≤ p.pw.2) {t : Th} (ht : t ∈ p.l) (hz : t.z ≠ 0) : (t.see p.ti p.ne p.fa).why p.pw.1 p.pw.2 = 0 := by
  obtain ⟨hw, h1, h2, h3, h4, h5, -⟩ := Pr.mark h hp ht hz
  exact Sg.why_mark hw h1 h2 h3 (by omega) (by omega)
theorem Sg.near_iff {s : Sg} {n f phi : Int} (hw : s.wit = .far n f) (hn : 0 < n) (_h : 0 ≤ phi) : s.tooNear phi = true ↔ 2000 < s.st.1 ∨ phi / n < s.st.1 := by
  have e : s.pw.1 = s.st.1 * n := by unfold Sg.pw; rw [hw]; rfl
  unfold Sg.tooNear
  rw [Bool.or_eq_true, decide_eq_true_eq, decide_eq_true_eq, e]
  rw [Int.ediv_lt_iff_lt_mul hn]
  have : 2000 < s.lo ↔ 2000 < s.st.1 := by rw [s.st_eq]; simp only; split <;> omega
  rw [this]
theorem Sg.far_iff {s : Sg} {n f plo : Int} (hw : s.wit = .far n f) (hf : 0 < f) : s.pw.2 < plo ↔ s.hi < plo / f ∨ 2000 < plo / f := by
  unfold Sg.pw
  rw [hw]
  simp only [Wit.powers]
  have h1 : (s.st.2 + 1) * f - 1 < plo ↔ s.st.2 + 1 ≤ plo / f := by rw [Int.le_ediv_iff_mul_le hf]; omega
  rw [h1, s.st_eq]
  simp only
  split <;> omega
theorem Sg.why1 {s : Sg} {plo phi : Int} (h : s.sl = true) : s.why plo phi = 1 := why_at (k := 0) (by omega) (fun j hj => by omega) h
theorem Sg.why2 {s : Sg} {plo phi : Int} (h0 : ¬ s.sl = true) (h : s.hi < 0) : s.why plo phi = 2 := why_at (k := 1) (by omega) (fun j hj => by
  match j, hj with
  | 0, _ => exact Bool.eq_false_iff.2 h0) (decide_eq_true h)
theorem Sg.why3 {s : Sg} {plo phi : Int} (h0 : ¬ s.sl = true) (h1 : ¬ s.hi < 0) (h : s.tooNear phi = true) : s.why plo phi = 3 := why_at (k := 2) (by omega) (fun j hj => by
  match j, hj with
  | 0, _ => exact Bool.eq_false_iff.2 h0
  | 1, _ => exact decide_eq_false h1) h
theorem Sg.why4 {s : Sg} {plo phi : Int} (h0 : ¬ s.sl = true) (h1 : ¬ s.hi < 0) (h2 : ¬ s.tooNear phi = true) (h : s.pw.2 < plo) : s.why plo phi = 4 := why_at (k := 3) (by omega) (fun j hj => by
  match j, hj with
  | 0, _ => exact Bool.eq_false_iff.2 h0
  | 1, _ => exact decide_eq_false h1
  | 2, _ => exact Bool.eq_false_iff.2 h2) (decide_eq_true h)
theorem Sg.why5 {s : Sg} {plo phi : Int} (h0 : ¬ s.sl = true) (h1 : ¬ s.hi < 0) (h2 : ¬ s.tooNear phi = true) (h : ¬ s.pw.2 < plo) : s.why plo phi = 0 := why_none (fun j hj => by
  match j, hj with
  | 0, _ => exact Bool.eq_false_iff.2 h0
  | 1, _ => exact decide_eq_false h1
  | 2, _ => exact Bool.eq_false_iff.2 h2
  | 3, _ => exact decide_eq_false h)
theorem Pr.why_is {p : Pr} (h : p.ok = true) (hp : p.pw.1 ≤ p.pw.2) {t : Th} (ht : t ∈ p.l) :
    let s := t.see p.ti p.ne p.fa
    let near := 2000 < imax 0 s.lo ∨ p.pw.2 / p.ne < imax 0 s.lo
    let far := s.hi < p.pw.1 / p.fa ∨ 2000 < p.pw.1 / p.fa
    let rows := p.ti < t.c - t.h ∨ p.ti < t.g - t.d
    (s.why p.pw.1 p.pw.2 = 0 ∧ ¬ rows ∧ 0 ≤ s.hi ∧ (t.z ≠ 0 ∨ ¬ near ∧ ¬ far)) ∨ (s.why p.pw.1 p.pw.2 = 1 ∧ rows) ∨ (s.why p.pw.1 p.pw.2 = 2 ∧ ¬ rows ∧ s.hi < 0) ∨
    (s.why p.pw.1 p.pw.2 = 3 ∧ ¬ rows ∧ 0 ≤ s.hi ∧ near ∧ t.z = 0) ∨ (s.why p.pw.1 p.pw.2 = 4 ∧ ¬ rows ∧ 0 ≤ s.hi ∧ ¬ near ∧ far ∧ t.z = 0) := by
  intro s near far rows
  have hb := p.bounds h
  have hin := p.pw_in h
  have hne := hb.ne0
  have hnf := hb.ne1
  have hsl : s.sl = true ↔ rows := by
    show decide (p.ti < imax (t.c - t.h) (t.g - t.d)) = true ↔ _
    rw [decide_eq_true_eq]; unfold imax; show _ ↔ (p.ti < t.c - t.h ∨ p.ti < t.g - t.d); split <;> omega
  by_cases hz : t.z = 0
  · have hw : s.wit = .far p.ne p.fa := Th.far hz
    have e1 := Sg.near_iff (phi := p.pw.2) hw (by omega) (by omega)
    have e2 := Sg.far_iff (plo := p.pw.1) hw (by omega)
    have e3 : imax 0 s.lo = s.st.1 := by rw [s.st_eq]; unfold imax; simp only; split <;> split <;> omega
    have en : near ↔ s.tooNear p.pw.2 = true := by show (2000 < imax 0 s.lo ∨ p.pw.2 / p.ne < imax 0 s.lo) ↔ _; rw [e3, e1]
    have ef : far ↔ s.pw.2 < p.pw.1 := e2.symm
    by_cases r0 : s.sl = true
    · right; left; exact ⟨Sg.why1 r0, hsl.1 r0⟩
    · have r0' : ¬ rows := fun c => r0 (hsl.2 c)
      by_cases r1 : s.hi < 0
      · right; right; left; exact ⟨Sg.why2 r0 r1, r0', r1⟩
      · by_cases r2 : s.tooNear p.pw.2 = true
        · right; right; right; left; exact ⟨Sg.why3 r0 r1 r2, r0', by omega, en.2 r2, hz⟩
        · by_cases r3 : s.pw.2 < p.pw.1
          · right; right; right; right; exact ⟨Sg.why4 r0 r1 r2 r3, r0', by omega, fun c => r2 (en.1 c), ef.2 r3, hz⟩
          · left; exact ⟨Sg.why5 r0 r1 r2 r3, r0', by omega, .inr ⟨fun c => r2 (en.1 c), fun c => r3 (ef.1 c)⟩⟩
  · left
    obtain ⟨hw, h1, h2, -⟩ := Pr.mark h hp ht hz
    refine ⟨Pr.mark_why h hp ht hz, fun c => ?_, h2, .inl hz⟩
    have := hsl.2 c
    rw [this] at h1; cases h1
theorem rempty_any (lo hi : Int) (w : World) :
    Calls Tryz.prog 122 #[.agg #[.int .i64 lo, .int .i64 hi]] w fun e w' => e = .returned (.bool (decide (hi < lo))) ∧ Below w.heap.size w w' := by
  go_enter Tryz.func122, Tryz.ntmps122
  go_wp2
  go_ret
  exact ⟨rfl, (Below.refl _ _).alloc (Nat.le_refl _) _⟩
theorem rnone_any (w : World) :
    Calls Tryz.prog 146 #[] w fun e w' => e = .returned (.agg #[.int .i64 1, .int .i64 0]) ∧ Below w.heap.size w w' := by
  go_enter Tryz.func146, Tryz.ntmps146
  go_wp2
  exact bodyPost_ret (v := .agg #[.int .i64 1, .int .i64 0]) (by simp [results, Tryz.results146, go_sem]) rfl ⟨rfl, ((Below.refl _ _).alloc (by first | (simp <;> omega) | omega) _)⟩
theorem rcommon_any (a b c d : Int) (w : World) :
    Calls Tryz.prog 123 #[.agg #[.int .i64 a, .int .i64 b], .agg #[.int .i64 c, .int .i64 d]] w fun e w' => e = .returned (.agg #[.int .i64 (ovl (a, b) (c, d)).1, .int .i64 (ovl (a, b) (c, d)).2]) ∧ Below w.heap.size w w' := by
  have hmx : ∀ (x y : Int), (if x < y then y else x) = imax x y := fun _ _ => rfl
  have hmn : ∀ (x y : Int), (if y < x then y else x) = imin x y := fun _ _ => rfl
  go_enter Tryz.func123, Tryz.ntmps123
  go_wp2
  exact bodyPost_ret (v := .agg #[.int .i64 (ovl (a, b) (c, d)).1, .int .i64 (ovl (a, b) (c, d)).2]) (by simp [results, Tryz.results123, go_sem, ovl, imin, imax]) rfl ⟨rfl, ((((Below.refl _ _).alloc (by first | (simp <;> omega) | omega) _).alloc (by first | (simp <;> omega) | omega) _).alloc (by first | (simp <;> omega) | omega) _)⟩
theorem rof_any (xa xb xc xd xe xf xg xh xz : Int) (w : World) (ha : -4000 ≤ xa ∧ xa ≤ 4000) (hb : -4000 ≤ xb ∧ xb ≤ 4000) (he : -4000 ≤ xe ∧ xe ≤ 4000) (hf : -4000 ≤ xf ∧ xf ≤ 4000) :
    Calls Tryz.prog 60 #[.agg #[.int .i64 xa, .int .i64 xb, .int .i64 xc, .int .i64 xd, .int .i64 xe, .int .i64 xf, .int .i64 xg, .int .i64 xh, .int .i64 xz]] w fun e w' => e = .returned (.agg #[.int .i64 (xa - xf), .int .i64 (xb - xe)]) ∧ Below w.heap.size w w' := by
  obtain ⟨a0, a1⟩ := ha
  obtain ⟨b0, b1⟩ := hb
  obtain ⟨e0, e1⟩ := he
  obtain ⟨f0, f1⟩ := hf
  go_enter Tryz.func60, Tryz.ntmps60
  go_wp2
  exact bodyPost_ret (v := .agg #[.int .i64 (xa - xf), .int .i64 (xb - xe)]) (by simp [results, Tryz.results60, go_sem]) rfl ⟨rfl, (((Below.refl _ _).alloc (by first | (simp <;> omega) | omega) _).alloc (by first | (simp <;> omega) | omega) _)⟩
theorem rlevel_any (xa xb xc xd xe xf xg xh xz : Int) (y : Int) (w : World) (hd : -4000 ≤ xd ∧ xd ≤ 4000) (hh : -4000 ≤ xh ∧ xh ≤ 4000) (hy : 0 ≤ y ∧ y ≤ 1000) :
    Calls Tryz.prog 125 #[.agg #[.int .i64 xa, .int .i64 xb, .int .i64 xc, .int .i64 xd, .int .i64 xe, .int .i64 xf, .int .i64 xg, .int .i64 xh, .int .i64 xz], .int .i64 y] w fun e w' => e = .returned (.bool (decide (xc ≤ xh + y) && decide (xg ≤ xd + y))) ∧ Below w.heap.size w w' := by
  obtain ⟨d0, d1⟩ := hd
  obtain ⟨h0, h1⟩ := hh
  obtain ⟨y0, y1⟩ := hy
  cases hc : decide (xc ≤ xh + y) with
  | true =>
    go_enter Tryz.func125, Tryz.ntmps125
    go_wp2
    go_ret
    exact ⟨by simp, ((Below.refl _ _).alloc (by first | (simp <;> omega) | omega) _)⟩
  | false =>
    go_enter Tryz.func125, Tryz.ntmps125
    go_wp2
    go_ret
    exact ⟨by simp, ((Below.refl _ _).alloc (by first | (simp <;> omega) | omega) _)⟩
theorem Gr.drewN (w : World) (n : Nat) : Gr w (w.drewN n) := (Below.refl _ _).trans ⟨rfl, rfl, rfl, Nat.le_refl _, fun _ _ => rfl⟩
theorem rthing_any (fl fh bl bh ti ne fa k : Int) (sp : Option Addr) (len cap : Nat) (w : World) (hl : len ≤ 1000) :
    Calls Tryz.prog 121 #[.agg #[.int .i64 fl, .int .i64 fh, .int .i64 bl, .int .i64 bh, .int .i64 ti, .int .i64 ne, .int .i64 fa, .slice sp len cap], .int .i64 k] w fun e w' => e = .returned (.bool (decide (0 ≤ k) && decide (k < (len : Int)))) ∧ Below w.heap.size w w' := by
  have e : (decide (0 ≤ k) && decide (k < (len : Int))) = (decide (0 ≤ k) && decide (k ≤ (len : Int) - 1)) := by
    congr 1
    simp only [decide_eq_decide]; omega
  rw [e]
  go_enter Tryz.func121, Tryz.ntmps121
  go_wp2_with (go_at_call 106; refine (rin_any _ _ _ _).mono ?_; rintro e w1 ⟨rfl, hb1⟩; obtain ⟨hc1, hf1, hz1⟩ := bcell (hb1))
  go_ret
  exact ⟨rfl, (bgr ((Below.refl _ _).alloc (by first | (simp <;> omega) | omega) _) (by first | (simp <;> omega) | omega) hb1)⟩
def rpw (ti ne fa : Int) (t : Th) : Int × Int :=
  if (decide (t.c ≤ t.h + ti) && decide (t.g ≤ t.d + ti)) = true ∧ (ovl (t.a - t.f, t.b - t.e) (0, 2000)).1 ≤ (ovl (t.a - t.f, t.b - t.e) (0, 2000)).2 then ((ovl (t.a - t.f, t.b - t.e) (0, 2000)).1 * (if t.z = 0 then ne else t.z), ((ovl (t.a - t.f, t.b - t.e) (0, 2000)).2 + 1) * (if t.z = 0 then fa else t.z) - 1) else (1, 0)
theorem rpow_far_ok (fl fh bl bh ti ne fa : Int) (v : Value) (xa xb xc xd xe xf xg xh xz : Int) (w : World) (ha : -4000 ≤ xa ∧ xa ≤ 4000) (hb : -4000 ≤ xb ∧ xb ≤ 4000) (hd : -4000 ≤ xd ∧ xd ≤ 4000) (he : -4000 ≤ xe ∧ xe ≤ 4000) (hf : -4000 ≤ xf ∧ xf ≤ 4000) (hh : -4000 ≤ xh ∧ xh ≤ 4000) (hy : 0 ≤ ti ∧ ti ≤ 1000) (hz : (xz != 0) = false) (n0 : 0 ≤ ne) (n1 : ne ≤ 1073741824) (f0 : 0 ≤ fa) (f1 : fa ≤ 1073741824) (hlv : (decide (xc ≤ xh + ti) && decide (xg ≤ xd + ti)) = true) (h0 : (ovl (xa - xf, xb - xe) (0, 2000)).1 ≤ (ovl (xa - xf, xb - xe) (0, 2000)).2) :
    Calls Tryz.prog 124 #[.agg #[.int .i64 fl, .int .i64 fh, .int .i64 bl, .int .i64 bh, .int .i64 ti, .int .i64 ne, .int .i64 fa, v], .agg #[.int .i64 xa, .int .i64 xb, .int .i64 xc, .int .i64 xd, .int .i64 xe, .int .i64 xf, .int .i64 xg, .int .i64 xh, .int .i64 xz]] w fun e w' => e = .returned (.agg #[.int .i64 ((ovl (xa - xf, xb - xe) (0, 2000)).1 * ne), .int .i64 (((ovl (xa - xf, xb - xe) (0, 2000)).2 + 1) * fa - 1)]) ∧ Below w.heap.size w w' := by
  have HO := Lib.hid (fun w => rof_any xa xb xc xd xe xf xg xh xz w ha hb he hf)
  have HC := Lib.hid (fun w => rcommon_any (xa - xf) (xb - xe) 0 2000 w)
  have HL : Hid (∀ W : World, Calls Tryz.prog 125 #[.agg #[.int .i64 xa, .int .i64 xb, .int .i64 xc, .int .i64 xd, .int .i64 xe, .int .i64 xf, .int .i64 xg, .int .i64 xh, .int .i64 xz], .int .i64 ti] W fun e w' => e = .returned (.bool true) ∧ Below W.heap.size W w') := Lib.hid (fun W => by
    have := rlevel_any xa xb xc xd xe xf xg xh xz ti W hd hh hy
    rwa [hlv] at this)
  have b0 : 0 ≤ (ovl (xa - xf, xb - xe) (0, 2000)).1 ∧ (ovl (xa - xf, xb - xe) (0, 2000)).2 ≤ 2000 := by unfold ovl; simp only; constructor <;> split <;> omega
  generalize (ovl (xa - xf, xb - xe) (0, 2000)).1 = s1 at *
  generalize (ovl (xa - xf, xb - xe) (0, 2000)).2 = s2 at *
  obtain ⟨m0, m1⟩ := mulb (a := s1) (b := ne) (by omega) (by omega) (by omega) (by omega)
  obtain ⟨m2, m3⟩ := mulb (a := s2 + 1) (b := fa) (by omega) (by omega) (by omega) (by omega)
  have hem : decide (s2 < s1) = false := by simp; omega
  have b1 : 0 ≤ s2 := by omega
  obtain ⟨-, b2⟩ := b0
  clear hlv ha hb hd he hf hh hy h0
  go_enter Tryz.func124, Tryz.ntmps124
  go_wp2_with fail
  go_quiet (fail)
  go_wp2_with fail
  refine (HO.out _).mono ?_
  rintro e w1 ⟨rfl, hb1⟩
  have hg1 : Gr _ _ := hb1
  go_wp2_with fail
  refine (HC.out _).mono ?_
  rintro e w2 ⟨rfl, hb2⟩
  have hg2 := Gr.tr hg1 hb2
  clear hb1 hb2
  obtain ⟨hc, hf, hz'⟩ := bcell hg2
  have hal := @cal
  have q0 : w.heap.size < w2.heap.size := hz' _ (by first | (simp <;> omega) | omega)
  have q1 : w.heap.size + 1 < w2.heap.size := hz' _ (by first | (simp <;> omega) | omega)
  have q2 : w.heap.size + 2 < w2.heap.size := hz' _ (by first | (simp <;> omega) | omega)
  have n0 := Nat.ne_of_lt q0
  have n1 := Nat.ne_of_lt q1
  have n2 := Nat.ne_of_lt q2
  go_wp2_with fail
  refine (HL.out _).mono ?_
  rintro e w3 ⟨rfl, hb3⟩
  have gg3 := Gr.tr (Gr.alloc _ _) hb3
  have hg3 := Gr.tr hg2 gg3
  have y0 := ((bcell hb3).1 w2.heap.size 0 (by simp)).trans (show _ = some (.int .i64 s1) by simp)
  have y1 := ((bcell hb3).1 w2.heap.size 1 (by simp)).trans (show _ = some (.int .i64 s2) by simp)
  have k2 : w2.heap.size < w3.heap.size := Nat.lt_of_lt_of_le (by simp) hb3.size
  clear hc hf hz' hb3
  obtain ⟨hc, hf, hz'⟩ := bcell hg3
  go_wp2_with fail
  refine (rempty_any _ _ _).mono ?_
  rintro e w4 ⟨rfl, hb4⟩
  have hg4 := Gr.tr hg3 hb4
  replace y0 := ((bcell hb4).1 w2.heap.size 0 k2).trans y0
  replace y1 := ((bcell hb4).1 w2.heap.size 1 k2).trans y1
  replace k2 : w2.heap.size < w4.heap.size := Nat.lt_of_lt_of_le k2 hb4.size
  clear hc hf hz' hb4
  obtain ⟨hc, hf, hz'⟩ := bcell hg4
  go_wp2
  exact bodyPost_ret (v := .agg #[.int .i64 (s1 * ne), .int .i64 ((s2 + 1) * fa - 1)]) (by simp [results, Tryz.results124, go_sem, hc]) rfl ⟨rfl, ((Gr.tr ((((Gr.alloc _ _).tr (Gr.alloc _ _)).tr (Gr.alloc _ _)).tr (Gr.drewN _ _)) hg4).setCell (by first | (simp <;> omega) | omega) _).setCell (by first | (simp <;> omega) | omega) _⟩
theorem rpow_far_no1 (fl fh bl bh ti ne fa : Int) (v : Value) (xa xb xc xd xe xf xg xh xz : Int) (w : World) (ha : -4000 ≤ xa ∧ xa ≤ 4000) (hb : -4000 ≤ xb ∧ xb ≤ 4000) (hd : -4000 ≤ xd ∧ xd ≤ 4000) (he : -4000 ≤ xe ∧ xe ≤ 4000) (hf : -4000 ≤ xf ∧ xf ≤ 4000) (hh : -4000 ≤ xh ∧ xh ≤ 4000) (hy : 0 ≤ ti ∧ ti ≤ 1000) (hz : (xz != 0) = false) (_n0 : 0 ≤ ne) (_n1 : ne ≤ 1073741824) (_f0 : 0 ≤ fa) (_f1 : fa ≤ 1073741824) (hlv : (decide (xc ≤ xh + ti) && decide (xg ≤ xd + ti)) = false) :
    Calls Tryz.prog 124 #[.agg #[.int .i64 fl, .int .i64 fh, .int .i64 bl, .int .i64 bh, .int .i64 ti, .int .i64 ne, .int .i64 fa, v], .agg #[.int .i64 xa, .int .i64 xb, .int .i64 xc, .int .i64 xd, .int .i64 xe, .int .i64 xf, .int .i64 xg, .int .i64 xh, .int .i64 xz]] w fun e w' => e = .returned (.agg #[.int .i64 1, .int .i64 0]) ∧ Below w.heap.size w w' := by
  have HO := Lib.hid (fun w => rof_any xa xb xc xd xe xf xg xh xz w ha hb he hf)
  have HC := Lib.hid (fun w => rcommon_any (xa - xf) (xb - xe) 0 2000 w)
  have HL : Hid (∀ W : World, Calls Tryz.prog 125 #[.agg #[.int .i64 xa, .int .i64 xb, .int .i64 xc, .int .i64 xd, .int .i64 xe, .int .i64 xf, .int .i64 xg, .int .i64 xh, .int .i64 xz], .int .i64 ti] W fun e w' => e = .returned (.bool false) ∧ Below W.heap.size W w') := Lib.hid (fun W => by
    have := rlevel_any xa xb xc xd xe xf xg xh xz ti W hd hh hy
    rwa [hlv] at this)
  generalize (ovl (xa - xf, xb - xe) (0, 2000)).1 = s1 at *
  generalize (ovl (xa - xf, xb - xe) (0, 2000)).2 = s2 at *
  clear hlv ha hb hd he hf hh hy
  go_enter Tryz.func124, Tryz.ntmps124
  go_wp2_with fail
  go_quiet (fail)
  go_wp2_with fail
  refine (HO.out _).mono ?_
  rintro e w1 ⟨rfl, hb1⟩
  have hg1 : Gr _ _ := hb1
  go_wp2_with fail
  refine (HC.out _).mono ?_
  rintro e w2 ⟨rfl, hb2⟩
  have hg2 := Gr.tr hg1 hb2
  clear hb1 hb2
  obtain ⟨hc, hf, hz'⟩ := bcell hg2
  have hal := @cal
  have q0 : w.heap.size < w2.heap.size := hz' _ (by first | (simp <;> omega) | omega)
  have q1 : w.heap.size + 1 < w2.heap.size := hz' _ (by first | (simp <;> omega) | omega)
  have q2 : w.heap.size + 2 < w2.heap.size := hz' _ (by first | (simp <;> omega) | omega)
  have n0 := Nat.ne_of_lt q0
  have n1 := Nat.ne_of_lt q1
  have n2 := Nat.ne_of_lt q2
  go_wp2_with fail
  refine (HL.out _).mono ?_
  rintro e w3 ⟨rfl, hb3⟩
  have gg3 := Gr.tr (Gr.alloc _ _) hb3
  have hg3 := Gr.tr hg2 gg3
  have y0 := ((bcell hb3).1 w2.heap.size 0 (by simp)).trans (show _ = some (.int .i64 s1) by simp)
  have y1 := ((bcell hb3).1 w2.heap.size 1 (by simp)).trans (show _ = some (.int .i64 s2) by simp)
  have k2 : w2.heap.size < w3.heap.size := Nat.lt_of_lt_of_le (by simp) hb3.size
  clear hc hf hz' hb3
  obtain ⟨hc, hf, hz'⟩ := bcell hg3
  go_wp2_with fail
  refine (rnone_any _).mono ?_
  rintro e w5 ⟨rfl, hb5⟩
  have hg5 := Gr.tr hg3 hb5
  clear hc hf hz' hb5
  obtain ⟨hc, hf, hz'⟩ := bcell hg5
  go_wp2
  exact bodyPost_ret (v := .agg #[.int .i64 1, .int .i64 0]) (by simp [results, Tryz.results124, go_sem, hc]) rfl ⟨rfl, ((Gr.tr ((((Gr.alloc _ _).tr (Gr.alloc _ _)).tr (Gr.alloc _ _)).tr (Gr.drewN _ _)) hg5).setCell (by first | (simp <;> omega) | omega) _).setCell (by first | (simp <;> omega) | omega) _⟩
theorem rpow_far_no2 (fl fh bl bh ti ne fa : Int) (v : Value) (xa xb xc xd xe xf xg xh xz : Int) (w : World) (ha : -4000 ≤ xa ∧ xa ≤ 4000) (hb : -4000 ≤ xb ∧ xb ≤ 4000) (hd : -4000 ≤ xd ∧ xd ≤ 4000) (he : -4000 ≤ xe ∧ xe ≤ 4000) (hf : -4000 ≤ xf ∧ xf ≤ 4000) (hh : -4000 ≤ xh ∧ xh ≤ 4000) (hy : 0 ≤ ti ∧ ti ≤ 1000) (hz : (xz != 0) = false) (_n0 : 0 ≤ ne) (_n1 : ne ≤ 1073741824) (_f0 : 0 ≤ fa) (_f1 : fa ≤ 1073741824) (hlv : (decide (xc ≤ xh + ti) && decide (xg ≤ xd + ti)) = true) (h0 : (ovl (xa - xf, xb - xe) (0, 2000)).2 < (ovl (xa - xf, xb - xe) (0, 2000)).1) :
    Calls Tryz.prog 124 #[.agg #[.int .i64 fl, .int .i64 fh, .int .i64 bl, .int .i64 bh, .int .i64 ti, .int .i64 ne, .int .i64 fa, v], .agg #[.int .i64 xa, .int .i64 xb, .int .i64 xc, .int .i64 xd, .int .i64 xe, .int .i64 xf, .int .i64 xg, .int .i64 xh, .int .i64 xz]] w fun e w' => e = .returned (.agg #[.int .i64 1, .int .i64 0]) ∧ Below w.heap.size w w' := by
  have HO := Lib.hid (fun w => rof_any xa xb xc xd xe xf xg xh xz w ha hb he hf)
  have HC := Lib.hid (fun w => rcommon_any (xa - xf) (xb - xe) 0 2000 w)
  have HL : Hid (∀ W : World, Calls Tryz.prog 125 #[.agg #[.int .i64 xa, .int .i64 xb, .int .i64 xc, .int .i64 xd, .int .i64 xe, .int .i64 xf, .int .i64 xg, .int .i64 xh, .int .i64 xz], .int .i64 ti] W fun e w' => e = .returned (.bool true) ∧ Below W.heap.size W w') := Lib.hid (fun W => by
    have := rlevel_any xa xb xc xd xe xf xg xh xz ti W hd hh hy
    rwa [hlv] at this)
  generalize (ovl (xa - xf, xb - xe) (0, 2000)).1 = s1 at *
  generalize (ovl (xa - xf, xb - xe) (0, 2000)).2 = s2 at *
  have hem : decide (s2 < s1) = true := by simpa using h0
  clear hlv ha hb hd he hf hh hy h0
  go_enter Tryz.func124, Tryz.ntmps124
  go_wp2_with fail
  go_quiet (fail)
  go_wp2_with fail
  refine (HO.out _).mono ?_
  rintro e w1 ⟨rfl, hb1⟩
  have hg1 : Gr _ _ := hb1
  go_wp2_with fail
  refine (HC.out _).mono ?_
  rintro e w2 ⟨rfl, hb2⟩
  have hg2 := Gr.tr hg1 hb2
  clear hb1 hb2
  obtain ⟨hc, hf, hz'⟩ := bcell hg2
  have hal := @cal
  have q0 : w.heap.size < w2.heap.size := hz' _ (by first | (simp <;> omega) | omega)
  have q1 : w.heap.size + 1 < w2.heap.size := hz' _ (by first | (simp <;> omega) | omega)
  have q2 : w.heap.size + 2 < w2.heap.size := hz' _ (by first | (simp <;> omega) | omega)
  have n0 := Nat.ne_of_lt q0
  have n1 := Nat.ne_of_lt q1
  have n2 := Nat.ne_of_lt q2
  go_wp2_with fail
  refine (HL.out _).mono ?_
  rintro e w3 ⟨rfl, hb3⟩
  have gg3 := Gr.tr (Gr.alloc _ _) hb3
  have hg3 := Gr.tr hg2 gg3
  have y0 := ((bcell hb3).1 w2.heap.size 0 (by simp)).trans (show _ = some (.int .i64 s1) by simp)
  have y1 := ((bcell hb3).1 w2.heap.size 1 (by simp)).trans (show _ = some (.int .i64 s2) by simp)
  have k2 : w2.heap.size < w3.heap.size := Nat.lt_of_lt_of_le (by simp) hb3.size
  clear hc hf hz' hb3
  obtain ⟨hc, hf, hz'⟩ := bcell hg3
  go_wp2_with fail
  refine (rempty_any _ _ _).mono ?_
  rintro e w4 ⟨rfl, hb4⟩
  have hg4 := Gr.tr hg3 hb4
  replace y0 := ((bcell hb4).1 w2.heap.size 0 k2).trans y0
  replace y1 := ((bcell hb4).1 w2.heap.size 1 k2).trans y1
  replace k2 : w2.heap.size < w4.heap.size := Nat.lt_of_lt_of_le k2 hb4.size
  clear hc hf hz' hb4
  obtain ⟨hc, hf, hz'⟩ := bcell hg4
  go_wp2_with fail
  refine (rnone_any _).mono ?_
  rintro e w5 ⟨rfl, hb5⟩
  have hg5 := Gr.tr hg4 hb5
  clear hc hf hz' hb5
  obtain ⟨hc, hf, hz'⟩ := bcell hg5
  go_wp2
  exact bodyPost_ret (v := .agg #[.int .i64 1, .int .i64 0]) (by simp [results, Tryz.results124, go_sem, hc]) rfl ⟨rfl, ((Gr.tr ((((Gr.alloc _ _).tr (Gr.alloc _ _)).tr (Gr.alloc _ _)).tr (Gr.drewN _ _)) hg5).setCell (by first | (simp <;> omega) | omega) _).setCell (by first | (simp <;> omega) | omega) _⟩
theorem rpow_mark_ok (fl fh bl bh ti ne fa : Int) (v : Value) (xa xb xc xd xe xf xg xh xz : Int) (w : World) (ha : -4000 ≤ xa ∧ xa ≤ 4000) (hb : -4000 ≤ xb ∧ xb ≤ 4000) (hd : -4000 ≤ xd ∧ xd ≤ 4000) (he : -4000 ≤ xe ∧ xe ≤ 4000) (hf : -4000 ≤ xf ∧ xf ≤ 4000) (hh : -4000 ≤ xh ∧ xh ≤ 4000) (hy : 0 ≤ ti ∧ ti ≤ 1000) (hz : (xz != 0) = true) (z0 : 0 ≤ xz) (z1 : xz ≤ 1073741824) (hlv : (decide (xc ≤ xh + ti) && decide (xg ≤ xd + ti)) = true) (h0 : (ovl (xa - xf, xb - xe) (0, 2000)).1 ≤ (ovl (xa - xf, xb - xe) (0, 2000)).2) :
    Calls Tryz.prog 124 #[.agg #[.int .i64 fl, .int .i64 fh, .int .i64 bl, .int .i64 bh, .int .i64 ti, .int .i64 ne, .int .i64 fa, v], .agg #[.int .i64 xa, .int .i64 xb, .int .i64 xc, .int .i64 xd, .int .i64 xe, .int .i64 xf, .int .i64 xg, .int .i64 xh, .int .i64 xz]] w fun e w' => e = .returned (.agg #[.int .i64 ((ovl (xa - xf, xb - xe) (0, 2000)).1 * xz), .int .i64 (((ovl (xa - xf, xb - xe) (0, 2000)).2 + 1) * xz - 1)]) ∧ Below w.heap.size w w' := by
  have HO := Lib.hid (fun w => rof_any xa xb xc xd xe xf xg xh xz w ha hb he hf)
  have HC := Lib.hid (fun w => rcommon_any (xa - xf) (xb - xe) 0 2000 w)
  have HL : Hid (∀ W : World, Calls Tryz.prog 125 #[.agg #[.int .i64 xa, .int .i64 xb, .int .i64 xc, .int .i64 xd, .int .i64 xe, .int .i64 xf, .int .i64 xg, .int .i64 xh, .int .i64 xz], .int .i64 ti] W fun e w' => e = .returned (.bool true) ∧ Below W.heap.size W w') := Lib.hid (fun W => by
    have := rlevel_any xa xb xc xd xe xf xg xh xz ti W hd hh hy
    rwa [hlv] at this)
  have b0 : 0 ≤ (ovl (xa - xf, xb - xe) (0, 2000)).1 ∧ (ovl (xa - xf, xb - xe) (0, 2000)).2 ≤ 2000 := by unfold ovl; simp only; constructor <;> split <;> omega
  generalize (ovl (xa - xf, xb - xe) (0, 2000)).1 = s1 at *
  generalize (ovl (xa - xf, xb - xe) (0, 2000)).2 = s2 at *
  obtain ⟨m0, m1⟩ := mulb (a := s1) (b := xz) (by omega) (by omega) (by omega) (by omega)
  obtain ⟨m2, m3⟩ := mulb (a := s2 + 1) (b := xz) (by omega) (by omega) (by omega) (by omega)
  have hem : decide (s2 < s1) = false := by simp; omega
  have b1 : 0 ≤ s2 := by omega
  obtain ⟨-, b2⟩ := b0
  clear hlv ha hb hd he hf hh hy h0
  go_enter Tryz.func124, Tryz.ntmps124
  go_wp2_with fail
  go_quiet (fail)
  go_wp2_with fail
  go_quiet (fail)
  go_wp2_with fail
  refine (HO.out _).mono ?_
  rintro e w1 ⟨rfl, hb1⟩
  have hg1 : Gr _ _ := hb1
  go_wp2_with fail
  refine (HC.out _).mono ?_
  rintro e w2 ⟨rfl, hb2⟩
  have hg2 := Gr.tr hg1 hb2
  clear hb1 hb2
  obtain ⟨hc, hf, hz'⟩ := bcell hg2
  have hal := @cal
  have q0 : w.heap.size < w2.heap.size := hz' _ (by first | (simp <;> omega) | omega)
  have q1 : w.heap.size + 1 < w2.heap.size := hz' _ (by first | (simp <;> omega) | omega)
  have q2 : w.heap.size + 2 < w2.heap.size := hz' _ (by first | (simp <;> omega) | omega)
  have n0 := Nat.ne_of_lt q0
  have n1 := Nat.ne_of_lt q1
  have n2 := Nat.ne_of_lt q2
  go_wp2_with fail
  refine (HL.out _).mono ?_
  rintro e w3 ⟨rfl, hb3⟩
  have gg3 := Gr.tr (Gr.alloc _ _) hb3
  have hg3 := Gr.tr hg2 gg3
  have y0 := ((bcell hb3).1 w2.heap.size 0 (by simp)).trans (show _ = some (.int .i64 s1) by simp)
  have y1 := ((bcell hb3).1 w2.heap.size 1 (by simp)).trans (show _ = some (.int .i64 s2) by simp)
  have k2 : w2.heap.size < w3.heap.size := Nat.lt_of_lt_of_le (by simp) hb3.size
  clear hc hf hz' hb3
  obtain ⟨hc, hf, hz'⟩ := bcell hg3
  go_wp2_with fail
  refine (rempty_any _ _ _).mono ?_
  rintro e w4 ⟨rfl, hb4⟩
  have hg4 := Gr.tr hg3 hb4
  replace y0 := ((bcell hb4).1 w2.heap.size 0 k2).trans y0
  replace y1 := ((bcell hb4).1 w2.heap.size 1 k2).trans y1
  replace k2 : w2.heap.size < w4.heap.size := Nat.lt_of_lt_of_le k2 hb4.size
  clear hc hf hz' hb4
  obtain ⟨hc, hf, hz'⟩ := bcell hg4
  go_wp2
  exact bodyPost_ret (v := .agg #[.int .i64 (s1 * xz), .int .i64 ((s2 + 1) * xz - 1)]) (by simp [results, Tryz.results124, go_sem, hc]) rfl ⟨rfl, ((Gr.tr ((((Gr.alloc _ _).tr (Gr.alloc _ _)).tr (Gr.alloc _ _)).tr (Gr.drewN _ _)) hg4).setCell (by first | (simp <;> omega) | omega) _).setCell (by first | (simp <;> omega) | omega) _⟩
theorem rpow_mark_no1 (fl fh bl bh ti ne fa : Int) (v : Value) (xa xb xc xd xe xf xg xh xz : Int) (w : World) (ha : -4000 ≤ xa ∧ xa ≤ 4000) (hb : -4000 ≤ xb ∧ xb ≤ 4000) (hd : -4000 ≤ xd ∧ xd ≤ 4000) (he : -4000 ≤ xe ∧ xe ≤ 4000) (hf : -4000 ≤ xf ∧ xf ≤ 4000) (hh : -4000 ≤ xh ∧ xh ≤ 4000) (hy : 0 ≤ ti ∧ ti ≤ 1000) (hz : (xz != 0) = true) (_z0 : 0 ≤ xz) (_z1 : xz ≤ 1073741824) (hlv : (decide (xc ≤ xh + ti) && decide (xg ≤ xd + ti)) = false) :
    Calls Tryz.prog 124 #[.agg #[.int .i64 fl, .int .i64 fh, .int .i64 bl, .int .i64 bh, .int .i64 ti, .int .i64 ne, .int .i64 fa, v], .agg #[.int .i64 xa, .int .i64 xb, .int .i64 xc, .int .i64 xd, .int .i64 xe, .int .i64 xf, .int .i64 xg, .int .i64 xh, .int .i64 xz]] w fun e w' => e = .returned (.agg #[.int .i64 1, .int .i64 0]) ∧ Below w.heap.size w w' := by
  have HO := Lib.hid (fun w => rof_any xa xb xc xd xe xf xg xh xz w ha hb he hf)
  have HC := Lib.hid (fun w => rcommon_any (xa - xf) (xb - xe) 0 2000 w)
  have HL : Hid (∀ W : World, Calls Tryz.prog 125 #[.agg #[.int .i64 xa, .int .i64 xb, .int .i64 xc, .int .i64 xd, .int .i64 xe, .int .i64 xf, .int .i64 xg, .int .i64 xh, .int .i64 xz], .int .i64 ti] W fun e w' => e = .returned (.bool false) ∧ Below W.heap.size W w') := Lib.hid (fun W => by
    have := rlevel_any xa xb xc xd xe xf xg xh xz ti W hd hh hy
    rwa [hlv] at this)
  generalize (ovl (xa - xf, xb - xe) (0, 2000)).1 = s1 at *
  generalize (ovl (xa - xf, xb - xe) (0, 2000)).2 = s2 at *
  clear hlv ha hb hd he hf hh hy
  go_enter Tryz.func124, Tryz.ntmps124
  go_wp2_with fail
  go_quiet (fail)
  go_wp2_with fail
  go_quiet (fail)
  go_wp2_with fail
  refine (HO.out _).mono ?_
  rintro e w1 ⟨rfl, hb1⟩
  have hg1 : Gr _ _ := hb1
  go_wp2_with fail
  refine (HC.out _).mono ?_
  rintro e w2 ⟨rfl, hb2⟩
  have hg2 := Gr.tr hg1 hb2
  clear hb1 hb2
  obtain ⟨hc, hf, hz'⟩ := bcell hg2
  have hal := @cal
  have q0 : w.heap.size < w2.heap.size := hz' _ (by first | (simp <;> omega) | omega)
  have q1 : w.heap.size + 1 < w2.heap.size := hz' _ (by first | (simp <;> omega) | omega)
  have q2 : w.heap.size + 2 < w2.heap.size := hz' _ (by first | (simp <;> omega) | omega)
  have n0 := Nat.ne_of_lt q0
  have n1 := Nat.ne_of_lt q1
  have n2 := Nat.ne_of_lt q2
  go_wp2_with fail
  refine (HL.out _).mono ?_
  rintro e w3 ⟨rfl, hb3⟩
  have gg3 := Gr.tr (Gr.alloc _ _) hb3
  have hg3 := Gr.tr hg2 gg3
  have y0 := ((bcell hb3).1 w2.heap.size 0 (by simp)).trans (show _ = some (.int .i64 s1) by simp)
  have y1 := ((bcell hb3).1 w2.heap.size 1 (by simp)).trans (show _ = some (.int .i64 s2) by simp)
  have k2 : w2.heap.size < w3.heap.size := Nat.lt_of_lt_of_le (by simp) hb3.size
  clear hc hf hz' hb3
  obtain ⟨hc, hf, hz'⟩ := bcell hg3
  go_wp2_with fail
  refine (rnone_any _).mono ?_
  rintro e w5 ⟨rfl, hb5⟩
  have hg5 := Gr.tr hg3 hb5
  clear hc hf hz' hb5
  obtain ⟨hc, hf, hz'⟩ := bcell hg5
  go_wp2
  exact bodyPost_ret (v := .agg #[.int .i64 1, .int .i64 0]) (by simp [results, Tryz.results124, go_sem, hc]) rfl ⟨rfl, ((Gr.tr ((((Gr.alloc _ _).tr (Gr.alloc _ _)).tr (Gr.alloc _ _)).tr (Gr.drewN _ _)) hg5).setCell (by first | (simp <;> omega) | omega) _).setCell (by first | (simp <;> omega) | omega) _⟩
theorem rpow_mark_no2 (fl fh bl bh ti ne fa : Int) (v : Value) (xa xb xc xd xe xf xg xh xz : Int) (w : World) (ha : -4000 ≤ xa ∧ xa ≤ 4000) (hb : -4000 ≤ xb ∧ xb ≤ 4000) (hd : -4000 ≤ xd ∧ xd ≤ 4000) (he : -4000 ≤ xe ∧ xe ≤ 4000) (hf : -4000 ≤ xf ∧ xf ≤ 4000) (hh : -4000 ≤ xh ∧ xh ≤ 4000) (hy : 0 ≤ ti ∧ ti ≤ 1000) (hz : (xz != 0) = true) (_z0 : 0 ≤ xz) (_z1 : xz ≤ 1073741824) (hlv : (decide (xc ≤ xh + ti) && decide (xg ≤ xd + ti)) = true) (h0 : (ovl (xa - xf, xb - xe) (0, 2000)).2 < (ovl (xa - xf, xb - xe) (0, 2000)).1) :
    Calls Tryz.prog 124 #[.agg #[.int .i64 fl, .int .i64 fh, .int .i64 bl, .int .i64 bh, .int .i64 ti, .int .i64 ne, .int .i64 fa, v], .agg #[.int .i64 xa, .int .i64 xb, .int .i64 xc, .int .i64 xd, .int .i64 xe, .int .i64 xf, .int .i64 xg, .int .i64 xh, .int .i64 xz]] w fun e w' => e = .returned (.agg #[.int .i64 1, .int .i64 0]) ∧ Below w.heap.size w w' := by
  have HO := Lib.hid (fun w => rof_any xa xb xc xd xe xf xg xh xz w ha hb he hf)
  have HC := Lib.hid (fun w => rcommon_any (xa - xf) (xb - xe) 0 2000 w)
  have HL : Hid (∀ W : World, Calls Tryz.prog 125 #[.agg #[.int .i64 xa, .int .i64 xb, .int .i64 xc, .int .i64 xd, .int .i64 xe, .int .i64 xf, .int .i64 xg, .int .i64 xh, .int .i64 xz], .int .i64 ti] W fun e w' => e = .returned (.bool true) ∧ Below W.heap.size W w') := Lib.hid (fun W => by
    have := rlevel_any xa xb xc xd xe xf xg xh xz ti W hd hh hy
    rwa [hlv] at this)
  generalize (ovl (xa - xf, xb - xe) (0, 2000)).1 = s1 at *
  generalize (ovl (xa - xf, xb - xe) (0, 2000)).2 = s2 at *
  have hem : decide (s2 < s1) = true := by simpa using h0
  clear hlv ha hb hd he hf hh hy h0
  go_enter Tryz.func124, Tryz.ntmps124
  go_wp2_with fail
  go_quiet (fail)
  go_wp2_with fail
  go_quiet (fail)
  go_wp2_with fail
  refine (HO.out _).mono ?_
  rintro e w1 ⟨rfl, hb1⟩
  have hg1 : Gr _ _ := hb1
  go_wp2_with fail
  refine (HC.out _).mono ?_
  rintro e w2 ⟨rfl, hb2⟩
  have hg2 := Gr.tr hg1 hb2
  clear hb1 hb2
  obtain ⟨hc, hf, hz'⟩ := bcell hg2
  have hal := @cal
  have q0 : w.heap.size < w2.heap.size := hz' _ (by first | (simp <;> omega) | omega)
  have q1 : w.heap.size + 1 < w2.heap.size := hz' _ (by first | (simp <;> omega) | omega)
  have q2 : w.heap.size + 2 < w2.heap.size := hz' _ (by first | (simp <;> omega) | omega)
  have n0 := Nat.ne_of_lt q0
  have n1 := Nat.ne_of_lt q1
  have n2 := Nat.ne_of_lt q2
  go_wp2_with fail
  refine (HL.out _).mono ?_
  rintro e w3 ⟨rfl, hb3⟩
  have gg3 := Gr.tr (Gr.alloc _ _) hb3
  have hg3 := Gr.tr hg2 gg3
  have y0 := ((bcell hb3).1 w2.heap.size 0 (by simp)).trans (show _ = some (.int .i64 s1) by simp)
  have y1 := ((bcell hb3).1 w2.heap.size 1 (by simp)).trans (show _ = some (.int .i64 s2) by simp)
  have k2 : w2.heap.size < w3.heap.size := Nat.lt_of_lt_of_le (by simp) hb3.size
  clear hc hf hz' hb3
  obtain ⟨hc, hf, hz'⟩ := bcell hg3
  go_wp2_with fail
  refine (rempty_any _ _ _).mono ?_
  rintro e w4 ⟨rfl, hb4⟩
  have hg4 := Gr.tr hg3 hb4
  replace y0 := ((bcell hb4).1 w2.heap.size 0 k2).trans y0
  replace y1 := ((bcell hb4).1 w2.heap.size 1 k2).trans y1
  replace k2 : w2.heap.size < w4.heap.size := Nat.lt_of_lt_of_le k2 hb4.size
  clear hc hf hz' hb4
  obtain ⟨hc, hf, hz'⟩ := bcell hg4
  go_wp2_with fail
  refine (rnone_any _).mono ?_
  rintro e w5 ⟨rfl, hb5⟩
  have hg5 := Gr.tr hg4 hb5
  clear hc hf hz' hb5
  obtain ⟨hc, hf, hz'⟩ := bcell hg5
  go_wp2
  exact bodyPost_ret (v := .agg #[.int .i64 1, .int .i64 0]) (by simp [results, Tryz.results124, go_sem, hc]) rfl ⟨rfl, ((Gr.tr ((((Gr.alloc _ _).tr (Gr.alloc _ _)).tr (Gr.alloc _ _)).tr (Gr.drewN _ _)) hg5).setCell (by first | (simp <;> omega) | omega) _).setCell (by first | (simp <;> omega) | omega) _⟩
theorem rpow_any (fl fh bl bh ti ne fa : Int) (v : Value) (t : Th) (w : World) (ht : t.ok) (hti : 0 ≤ ti ∧ ti ≤ 1000) (hne : 0 ≤ ne ∧ ne ≤ 1073741824) (hfa : 0 ≤ fa ∧ fa ≤ 1073741824) (hz : 0 ≤ t.z ∧ t.z ≤ 1073741824) :
    Calls Tryz.prog 124 #[.agg #[.int .i64 fl, .int .i64 fh, .int .i64 bl, .int .i64 bh, .int .i64 ti, .int .i64 ne, .int .i64 fa, v], t.val] w fun e w' => e = .returned (.agg #[.int .i64 (rpw ti ne fa t).1, .int .i64 (rpw ti ne fa t).2]) ∧ Below w.heap.size w w' := by
  obtain ⟨xa, xb, xc, xd, xe, xf, xg, xh, xz⟩ := t
  obtain ⟨ha, hb, -, hd, he, hf, -, hh⟩ := ht
  cases hlv : (decide (xc ≤ xh + ti) && decide (xg ≤ xd + ti)) with
  | false =>
    have e : rpw ti ne fa ⟨xa, xb, xc, xd, xe, xf, xg, xh, xz⟩ = (1, 0) := by unfold rpw; rw [if_neg]; intro c; rw [hlv] at c; cases c.1
    rw [e]
    by_cases h0 : xz = 0
    · exact rpow_far_no1 fl fh bl bh ti ne fa v xa xb xc xd xe xf xg xh xz w ha hb hd he hf hh hti (by simpa using h0) hne.1 hne.2 hfa.1 hfa.2 hlv
    · exact rpow_mark_no1 fl fh bl bh ti ne fa v xa xb xc xd xe xf xg xh xz w ha hb hd he hf hh hti (by simpa using h0) hz.1 hz.2 hlv
  | true =>
    by_cases hs : (ovl (xa - xf, xb - xe) (0, 2000)).1 ≤ (ovl (xa - xf, xb - xe) (0, 2000)).2
    · by_cases h0 : xz = 0
      · have e : rpw ti ne fa ⟨xa, xb, xc, xd, xe, xf, xg, xh, xz⟩ = ((ovl (xa - xf, xb - xe) (0, 2000)).1 * ne, ((ovl (xa - xf, xb - xe) (0, 2000)).2 + 1) * fa - 1) := by unfold rpw; rw [if_pos ⟨hlv, hs⟩]; simp only [h0, if_true]
        rw [e]
        exact rpow_far_ok fl fh bl bh ti ne fa v xa xb xc xd xe xf xg xh xz w ha hb hd he hf hh hti (by simpa using h0) hne.1 hne.2 hfa.1 hfa.2 hlv hs
      · have e : rpw ti ne fa ⟨xa, xb, xc, xd, xe, xf, xg, xh, xz⟩ = ((ovl (xa - xf, xb - xe) (0, 2000)).1 * xz, ((ovl (xa - xf, xb - xe) (0, 2000)).2 + 1) * xz - 1) := by unfold rpw; rw [if_pos ⟨hlv, hs⟩]; simp only [h0, if_false]
        rw [e]
        exact rpow_mark_ok fl fh bl bh ti ne fa v xa xb xc xd xe xf xg xh xz w ha hb hd he hf hh hti (by simpa using h0) hz.1 hz.2 hlv hs
    · have e : rpw ti ne fa ⟨xa, xb, xc, xd, xe, xf, xg, xh, xz⟩ = (1, 0) := by unfold rpw; rw [if_neg]; exact fun c => hs c.2
      rw [e]
      by_cases h0 : xz = 0
      · exact rpow_far_no2 fl fh bl bh ti ne fa v xa xb xc xd xe xf xg xh xz w ha hb hd he hf hh hti (by simpa using h0) hne.1 hne.2 hfa.1 hfa.2 hlv (by omega)
      · exact rpow_mark_no2 fl fh bl bh ti ne fa v xa xb xc xd xe xf xg xh xz w ha hb hd he hf hh hti (by simpa using h0) hz.1 hz.2 hlv (by omega)
def rallTo (fl fh bl bh ti ne fa : Int) (l : List Th) : Int × Int := ((l.filter Th.m).map (rpw ti ne fa)).foldl ovl (fl * bl, fh * bh)
theorem rallTo_mark {fl fh bl bh ti ne fa : Int} {l : List Th} {k : Nat} {t : Th} (ht : l[k]? = some t) (hm : t.m = true) : rallTo fl fh bl bh ti ne fa (l.take (k + 1)) = ovl (rallTo fl fh bl bh ti ne fa (l.take k)) (rpw ti ne fa t) := by
  have : l.take (k + 1) = l.take k ++ [t] := by rw [List.take_add_one, ht]; rfl
  unfold rallTo
  rw [this, List.filter_append, List.map_append, List.foldl_append]
  simp [List.filter, hm]
theorem rallTo_far {fl fh bl bh ti ne fa : Int} {l : List Th} {k : Nat} {t : Th} (ht : l[k]? = some t) (hm : t.m = false) : rallTo fl fh bl bh ti ne fa (l.take (k + 1)) = rallTo fl fh bl bh ti ne fa (l.take k) := by
  have : l.take (k + 1) = l.take k ++ [t] := by rw [List.take_add_one, ht]; rfl
  unfold rallTo
  rw [this, List.filter_append, List.map_append, List.foldl_append]
  simp [List.filter, hm]
def Pr.rall (p : Pr) : Int × Int := rallTo p.fl p.fh p.bl p.bh p.ti p.ne p.fa p.l
theorem rall_any (p : Pr) (v : Value) (w : World) (hok : p.ok = true) (h : TsA p.l v w) :
    Calls Tryz.prog 130 #[.agg #[.int .i64 p.fl, .int .i64 p.fh, .int .i64 p.bl, .int .i64 p.bh, .int .i64 p.ti, .int .i64 p.ne, .int .i64 p.fa, v]] w fun e w' => e = .returned (.agg #[.int .i64 p.rall.1, .int .i64 p.rall.2]) ∧ Below w.heap.size w w' := by
  obtain ⟨sp, cap, rfl, hlen⟩ := h.len
  have hb := p.bounds hok
  obtain ⟨m0, m1⟩ := mul_in (a := p.fl) (b := p.bl) hb.fl1 (show p.fl ≤ 50000 by have := hb.fh1; have := hb.fh2; omega) hb.bl1 (show p.bl ≤ 10000 by have := hb.bh1; have := hb.bh2; omega)
  obtain ⟨m2, m3⟩ := mul_in (a := p.fh) (b := p.bh) (show 1 ≤ p.fh by have := hb.fl1; have := hb.fh1; omega) hb.fh2 (show 1 ≤ p.bh by have := hb.bl1; have := hb.bh1; omega) hb.bh2
  simp only [Int.reduceMul] at m1 m3
  have HPW := Lib.hid (fun (t : Th) (ht : t ∈ p.l) (v : Value) (w : World) => rpow_any p.fl p.fh p.bl p.bh p.ti p.ne p.fa v t w (hb.things t ht).1 ⟨hb.ti0, hb.ti1⟩ ⟨by have := hb.ne0; omega, by have := hb.ne1; have := hb.fa1; omega⟩ ⟨by have := hb.ne0; have := hb.ne1; omega, hb.fa1⟩ ⟨by have := (hb.things t ht).2; have := hb.ne0; omega, by have := (hb.things t ht).2; have := hb.fa1; omega⟩)
  clear hb
  have hWp : Below w.heap.size w ((w.alloc (.cells #[.int .i64 p.fl, .int .i64 p.fh, .int .i64 p.bl, .int .i64 p.bh, .int .i64 p.ti, .int .i64 p.ne, .int .i64 p.fa, .slice sp p.l.length cap] 26)).alloc (.cells #[.int .i64 0, .int .i64 0] 23)) := (Gr.alloc _ _).tr (Gr.alloc _ _)
  have hB : Box ((w.alloc (.cells #[.int .i64 p.fl, .int .i64 p.fh, .int .i64 p.bl, .int .i64 p.bh, .int .i64 p.ti, .int .i64 p.ne, .int .i64 p.fa, .slice sp p.l.length cap] 26)).alloc (.cells #[.int .i64 0, .int .i64 0] 23)) w.heap.size [.int .i64 p.fl, .int .i64 p.fh, .int .i64 p.bl, .int .i64 p.bh, .int .i64 p.ti, .int .i64 p.ne, .int .i64 p.fa, .slice sp p.l.length cap] 26 := (Box.fresh w _ _).grow (Gr.alloc _ _)
  have hR : Box ((w.alloc (.cells #[.int .i64 p.fl, .int .i64 p.fh, .int .i64 p.bl, .int .i64 p.bh, .int .i64 p.ti, .int .i64 p.ne, .int .i64 p.fa, .slice sp p.l.length cap] 26)).alloc (.cells #[.int .i64 0, .int .i64 0] 23)) (w.heap.size + 1) [.int .i64 0, .int .i64 0] 23 := by
    have := Box.fresh (w.alloc (.cells #[.int .i64 p.fl, .int .i64 p.fh, .int .i64 p.bl, .int .i64 p.bh, .int .i64 p.ti, .int .i64 p.ne, .int .i64 p.fa, .slice sp p.l.length cap] 26)) [.int .i64 0, .int .i64 0] 23
    simpa using this
  have hT : TsA p.l (.slice sp p.l.length cap) ((w.alloc (.cells #[.int .i64 p.fl, .int .i64 p.fh, .int .i64 p.bl, .int .i64 p.bh, .int .i64 p.ti, .int .i64 p.ne, .int .i64 p.fa, .slice sp p.l.length cap] 26)).alloc (.cells #[.int .i64 0, .int .i64 0] 23)) := TsA.lasts p.l _ _ _ h hWp
  go_enter Tryz.func130, Tryz.ntmps130
  go_wp2
  generalize hW0 : (w.alloc (.cells #[.int .i64 p.fl, .int .i64 p.fh, .int .i64 p.bl, .int .i64 p.bh, .int .i64 p.ti, .int .i64 p.ne, .int .i64 p.fa, .slice sp p.l.length cap] 26)).alloc (.cells #[.int .i64 0, .int .i64 0] 23) = W0 at *
  have hsz : w.heap.size + 1 + 1 = W0.heap.size := by rw [← hW0]; simp
  clear hW0
  have HB := Lib.hid hB
  have HR := Lib.hid hR
  have HWp := Lib.hid hWp
  have HT := Lib.hid hT
  have HZ := Lib.hid hsz
  have k0 : w.heap.size < W0.heap.size := by omega
  have k1 : w.heap.size + 1 < W0.heap.size := by omega
  have hF0 : Box (W0.alloc (.cells #[.int .i64 (p.fl * p.bl), .int .i64 (p.fh * p.bh)] 23)) W0.heap.size [.int .i64 (p.fl * p.bl), .int .i64 (p.fh * p.bh)] 23 := Box.fresh W0 _ _
  have HF0 := Lib.hid hF0
  rw [hsz]
  have hcs : W0.heap.size = W0.heap.size := rfl
  generalize hcc : W0.heap.size = c at *
  have HC := Lib.hid hcc
  clear hcc hcs
  clear hB hR hWp hT hsz h hF0 m0 m1 m2 m3
  have hal := @cal
  have hfl := @fal
  go_loopw [4] (fun i wr => ∃ k : Nat, k ≤ p.l.length ∧ i = .int .i64 k ∧ Below c W0 wr ∧ Box wr c [.int .i64 (rallTo p.fl p.fh p.bl p.bh p.ti p.ne p.fa (p.l.take k)).1, .int .i64 (rallTo p.fl p.fh p.bl p.bh p.ti p.ne p.fa (p.l.take k)).2] 23) (fun i _ => p.l.length - (intOf i).toNat)
  case atStart =>
    have e : rallTo p.fl p.fh p.bl p.bh p.ti p.ne p.fa (p.l.take 0) = (p.fl * p.bl, p.fh * p.bh) := by rw [List.take_zero]; rfl
    exact ⟨0, Nat.zero_le _, rfl, by have := Gr.alloc W0 (.cells #[.int .i64 (p.fl * p.bl), .int .i64 (p.fh * p.bh)] 23); unfold Gr at this; rwa [← HZ.out, ← HC.out] at *, by rw [e]; exact HF0.out⟩
  case round =>
    obtain ⟨k, hk, rfl, hg, hbx⟩ := hrel
    have HBX := Lib.hid hbx
    have HG := Lib.hid hg
    have C := (HB.out.below HG.out k0).facts
    simp only [CsF, Nat.zero_add, Nat.reduceAdd, and_true] at C
    have R := (HR.out.below HG.out k1).two
    have Y := hbx.two
    have ht := TsA.below HT.out HC.out HG.out
    clear hg hbx
    by_cases hlt : k < p.l.length
    · obtain ⟨t, htk⟩ : ∃ t, p.l[k]? = some t := ⟨p.l[k], List.getElem?_eq_getElem hlt⟩
      have HTW := Lib.hid ht
      obtain ⟨-, ht⟩ := ht
      rcases ht with ⟨e, -⟩ | ⟨b, o, cap', hsp, hb, hc⟩
      · rw [e] at hlt; simp at hlt
      have X := hc k t htk
      obtain ⟨hsp1, -, -⟩ : sp = some ⟨b, o, none⟩ ∧ p.l.length = p.l.length ∧ cap = cap' := by simpa using hsp
      subst hsp1
      clear hc hsp
      have HPT := Lib.hid (HPW.out t (List.mem_of_getElem? htk))
      by_cases hz : t.z = 0
      · have hm : t.m = false := by simp [Th.m, hz]
        have HS := Lib.hid (rallTo_far (fl := p.fl) (fh := p.fh) (bl := p.bl) (bh := p.bh) (ti := p.ti) (ne := p.ne) (fa := p.fa) htk hm)
        obtain ⟨xa, xb, xc, xd, xe, xf, xg, xh, xz⟩ := t
        have z1 : (xz != 0) = false := by simpa using hz
        replace X := CsF.nine X
        simp only at X
        clear hz hm htk
        go_wp2
        exact ⟨⟨k + 1, by omega, by go_num, HG.out, by rw [HS.out]; exact HBX.out⟩, by simp [intOf]; omega⟩
      · have hm : t.m = true := by simp [Th.m, hz]
        have HS := Lib.hid (rallTo_mark (fl := p.fl) (fh := p.fh) (bl := p.bl) (bh := p.bh) (ti := p.ti) (ne := p.ne) (fa := p.fa) htk hm)
        have hval : t.val = .agg #[.int .i64 t.a, .int .i64 t.b, .int .i64 t.c, .int .i64 t.d, .int .i64 t.e, .int .i64 t.f, .int .i64 t.g, .int .i64 t.h, .int .i64 t.z] := rfl
        rw [hval] at HPT
        clear hval
        obtain ⟨xa, xb, xc, xd, xe, xf, xg, xh, xz⟩ := t
        have z1 : (xz != 0) = true := by simpa using hz
        replace X := CsF.nine X
        simp only at X HPT
        generalize hq : rpw p.ti p.ne p.fa ⟨xa, xb, xc, xd, xe, xf, xg, xh, xz⟩ = q at *
        obtain ⟨q1, q2⟩ := q
        generalize hf : rallTo p.fl p.fh p.bl p.bh p.ti p.ne p.fa (p.l.take k) = ff at *
        obtain ⟨f1, f2⟩ := ff
        simp only at Y HPT
        have HFF := Lib.hid hf
        have HQ := Lib.hid hq
        clear hf hq hz hm htk
        go_wp2_with fail
        refine region2 9 ?_ ?_ ?_
        · kernel_rfl
        · kernel_rfl
        simp only [List.take_succ_cons, List.take_zero, List.drop_succ_cons, List.drop_zero]
        apply ceq (D := [(3, none)]) rfl (by kernel_rfl)
        · intro ρ W ⟨p1,p2,p3⟩ hG hF K hK; (try simp [FD] at hF); have ⟨hc, hf, hz⟩ := bdr hG; go_simp; exact hK _ gv
        apply ceq (D := [(1, none)]) rfl (by kernel_rfl)
        · intro ρ W ⟨p1,p2,p3⟩ hG hF K hK; (try simp [FD] at hF); have ⟨hc, hf, hz⟩ := bdr hG; go_simp; exact hK _ gv
        apply ceq (D := [(1, none)]) rfl (by kernel_rfl)
        · intro ρ W ⟨p1,p2,p3⟩ hG hF K hK; (try simp [FD] at hF); have ⟨hc, hf, hz⟩ := bdr hG; go_simp; exact hK _ gv
        apply ceq (D := [(36, some 0)]) rfl (by kernel_rfl)
        · intro ρ W ⟨p1,p2,p3⟩ hG hF K hK; (try simp [FD] at hF); have ⟨hc, hf, hz⟩ := bdr hG; go_simp; exact hK _ gv
        apply ceq (D := [(4, none)]) rfl (by kernel_rfl)
        · intro ρ W ⟨p1,p2,p3⟩ hG hF K hK; (try simp [FD] at hF); have ⟨hc, hf, hz⟩ := bdr hG; go_simp; exact hK _ gv
        apply ceq (D := [(37, some 1), (38, some 0)]) rfl (by kernel_rfl)
        · intro ρ W ⟨p1,p2,p3⟩ hG hF K hK; (try simp [FD] at hF); have ⟨hc, hf, hz⟩ := bdr hG; go_simp; exact hK _ gv
        apply ceq (D := [(39, some 0)]) rfl (by kernel_rfl)
        · intro ρ W ⟨p1,p2,p3⟩ hG hF K hK; (try simp [FD] at hF); have ⟨hc, hf, hz⟩ := bdr hG; go_simp; exact hK _ gv
        apply ceq (D := [(35, some 5), (40, some 0)]) rfl (by kernel_rfl)
        · intro ρ W ⟨p1,p2,p3⟩ hG hF K hK; (try simp [FD] at hF); have ⟨hc, hf, hz⟩ := bdr hG; go_simp; exact hK _ (gc (HPT.out _ _))
        apply ceq (D := [(34, some 7), (41, some 0)]) rfl (by kernel_rfl)
        · intro ρ W ⟨p1,p2,p3⟩ hG hF K hK; (try simp [FD] at hF); have ⟨hc, hf, hz⟩ := bdr hG; go_simp; exact hK _ (gc (rcommon_any _ _ _ _ _))
        refine cdn ?_
        intro vs W hG hV
        obtain ⟨e8, -⟩ := hV
        simp only [Nat.reduceSub] at e8
        simp only [lay, Act.put, List.getElem?_toArray, List.getElem?_cons_succ, List.getElem?_cons_zero, Option.bind_some, List.setIfInBounds_toArray, List.set_cons_succ, List.set_cons_zero]
        generalize vs 0 = v0, vs 1 = v1, vs 2 = v2, vs 3 = v3, vs 4 = v4, vs 5 = v5, vs 6 = v6, vs 7 = v7
        generalize vs 8 = v8 at *
        subst e8
        obtain ⟨hc, hf, hz⟩ := bcell hG
        go_wp2
        refine ⟨⟨k + 1, by omega, by go_num, ((bgr HG.out (Nat.le_of_lt HBX.out.lt) hG).setCell (Nat.le_refl _) _).setCell (Nat.le_refl _) _, ?_⟩, by simp [intOf]; omega⟩
        rw [HS.out]
        exact ((HBX.out.grow hG).put 0 _).put 1 _
    · have hkl : k = p.l.length := by omega
      subst hkl
      rw [List.take_length] at *
      clear ht
      go_wp2
      exact bodyPost_ret (v := .agg #[.int .i64 p.rall.1, .int .i64 p.rall.2]) (by simp [results, Tryz.results130, go_sem, Pr.rall, *]) rfl ⟨rfl, ((HWp.out.trans (Below.mono HG.out (by omega))).setCell (by first | (simp <;> omega) | omega) _).setCell (by first | (simp <;> omega) | omega) _⟩
theorem rpw_spw {p : Pr} (h : p.ok = true) {t : Th} (ht : t ∈ p.l) (hm : t.m = true) : rpw p.ti p.ne p.fa t = (t.see p.ti p.ne p.fa).spw ∨ ((rpw p.ti p.ne p.fa t) = (1, 0) ∧ (t.see p.ti p.ne p.fa).spw.2 < (t.see p.ti p.ne p.fa).spw.1) := by
  have hb := p.bounds h
  have hz : t.z ≠ 0 := by simpa [Th.m] using hm
  have hzz := (hb.things t ht).2
  have hne := hb.ne0
  have hw : (t.see p.ti p.ne p.fa).wit = .mark t.z := by simp [Th.see, Th.wit, hz]
  have hst : (t.see p.ti p.ne p.fa).st = ovl (t.a - t.f, t.b - t.e) (0, 2000) := rfl
  have hsl : (t.see p.ti p.ne p.fa).sl = !(decide (t.c ≤ t.h + p.ti) && decide (t.g ≤ t.d + p.ti)) := by
    show decide (p.ti < imax (t.c - t.h) (t.g - t.d)) = _
    rw [Bool.eq_iff_iff]
    simp only [decide_eq_true_eq, Bool.not_eq_true', Bool.and_eq_false_iff, decide_eq_false_iff_not]
    unfold imax; split <;> omega
  unfold rpw
  rw [if_neg hz, if_neg hz, ← hst]
  cases hl : (decide (t.c ≤ t.h + p.ti) && decide (t.g ≤ t.d + p.ti)) with
  | false =>
    left
    rw [if_neg (by simp)]
    unfold Sg.spw
    rw [hsl, hl]; rfl
  | true =>
    have e : (t.see p.ti p.ne p.fa).spw = ((t.see p.ti p.ne p.fa).st.1 * t.z, ((t.see p.ti p.ne p.fa).st.2 + 1) * t.z - 1) := by
      unfold Sg.spw Sg.pw
      rw [hsl, hl, hw]; rfl
    by_cases hs : (t.see p.ti p.ne p.fa).st.1 ≤ (t.see p.ti p.ne p.fa).st.2
    · left; rw [if_pos ⟨rfl, hs⟩, e]
    · right
      rw [if_neg (fun c => hs c.2), e]
      refine ⟨rfl, ?_⟩
      have : ((t.see p.ti p.ne p.fa).st.2 + 1) * t.z ≤ (t.see p.ti p.ne p.fa).st.1 * t.z := Int.mul_le_mul_of_nonneg_right (by omega) (by omega)
      simp only; omega
theorem Pr.rall_eq {p : Pr} (h : p.ok = true) : (p.rall.1 ≤ p.rall.2 ↔ p.pw.1 ≤ p.pw.2) ∧ (p.pw.1 ≤ p.pw.2 → p.rall = p.pw) := by
  by_cases H : ∀ t ∈ p.l, t.m = true → rpw p.ti p.ne p.fa t = (t.see p.ti p.ne p.fa).spw
  · have e : p.rall = p.pw := by
      rw [p.pw_eq]
      unfold Pr.rall rallTo
      congr 1
      rw [List.map_map]
      refine List.map_congr_left fun t ht => ?_
      have := List.mem_filter.1 ht
      exact H t this.1 this.2
    rw [e]; exact ⟨Iff.rfl, fun _ => rfl⟩
  · obtain ⟨t, ht⟩ := Classical.not_forall.1 H
    obtain ⟨h1, h2⟩ := Classical.not_imp.1 ht
    obtain ⟨h3, h4⟩ := Classical.not_imp.1 h2
    obtain ⟨h5, h6⟩ := (rpw_spw h h1 h3).resolve_left h4
    have a1 := ((p.pw1 p.pw.1).1 (Int.le_refl _)).2 t h1 h3
    have a2 := ((p.pw2 p.pw.2).1 (Int.le_refl _)).2 t h1 h3
    have hmem : rpw p.ti p.ne p.fa t ∈ (p.l.filter Th.m).map (rpw p.ti p.ne p.fa) := List.mem_map.2 ⟨t, List.mem_filter.2 ⟨h1, h3⟩, rfl⟩
    have b1 : (rpw p.ti p.ne p.fa t).1 ≤ p.rall.1 := ((ovl_le1 _ p.rall.1 (p.fl * p.bl, p.fh * p.bh)).1 (Int.le_refl _)).2 _ hmem
    have b2 : p.rall.2 ≤ (rpw p.ti p.ne p.fa t).2 := ((ovl_le2 _ p.rall.2 (p.fl * p.bl, p.fh * p.bh)).1 (Int.le_refl _)).2 _ hmem
    rw [h5] at b1 b2
    simp only at b1 b2
    exact ⟨by omega, by omega⟩
def Pr.ropen (p : Pr) (b : Bool) : Int × Int × Int := if p.ok then if b then p.power else (0, 0, 2) else (0, 0, 1)
theorem ropen_bad (p : Pr) (v : Value) (w : World) (hT : TsA p.l v w) (b : Bool) (hok : Hid (p.ok = false)) :
    Calls Tryz.prog 104 #[.agg #[.int .i64 p.fl, .int .i64 p.fh, .int .i64 p.bl, .int .i64 p.bh, .int .i64 p.ti, .int .i64 p.ne, .int .i64 p.fa, v], .bool b] w fun e w' => e = .returned (.tuple #[.agg #[.int .i64 0, .int .i64 0], .int .i64 1]) ∧ Below w.heap.size w w' := by
  have TH := Lib.hid (fun (W : World) (hg : Gr ((w.alloc (.cells #[.int .i64 p.fl, .int .i64 p.fh, .int .i64 p.bl, .int .i64 p.bh, .int .i64 p.ti, .int .i64 p.ne, .int .i64 p.fa, v] 26)).alloc (.cells #[.int .i64 0, .int .i64 0] 23)) W) => TsA.lasts p.l _ _ _ hT (((Gr.alloc _ _).tr (Gr.alloc _ _)).tr hg))
  have hg0 := Gr.same ((w.alloc (.cells #[.int .i64 p.fl, .int .i64 p.fh, .int .i64 p.bl, .int .i64 p.bh, .int .i64 p.ti, .int .i64 p.ne, .int .i64 p.fa, v] 26)).alloc (.cells #[.int .i64 0, .int .i64 0] 23))
  have hal := @cal
  clear hT
  go_enter Tryz.func104, Tryz.ntmps104
  go_wp2_with fail
  refine (rpair_is hok.out (TH.out _ hg0)).mono ?_
  rintro e w1 ⟨rfl, hb1⟩
  have gg1 : Gr _ _ := hb1
  have hg1 := Gr.tr hg0 gg1
  obtain ⟨hc, hf, hz⟩ := bcell hg1
  have s10 : w.heap.size < w1.heap.size := hz _ (by first | (simp <;> omega) | omega)
  have s11 : w.heap.size + 1 < w1.heap.size := hz _ (by first | (simp <;> omega) | omega)
  have n10 := Nat.ne_of_lt s10
  have n11 := Nat.ne_of_lt s11
  go_wp2
  exact bodyPost_ret (v := .tuple #[.agg #[.int .i64 0, .int .i64 0], .int .i64 1]) (by simp [results, Tryz.results104, go_sem, hc]) rfl ⟨rfl, ((show Below w.heap.size w _ from ((Gr.alloc _ _).tr (Gr.alloc _ _)).tr hg1).setCell (by first | (simp <;> omega) | omega) _).setCell (by first | (simp <;> omega) | omega) _⟩
theorem ropen_range (p : Pr) (v : Value) (w : World) (hT : TsA p.l v w) (hok : Hid (p.ok = true)) :
    Calls Tryz.prog 104 #[.agg #[.int .i64 p.fl, .int .i64 p.fh, .int .i64 p.bl, .int .i64 p.bh, .int .i64 p.ti, .int .i64 p.ne, .int .i64 p.fa, v], .bool false] w fun e w' => e = .returned (.tuple #[.agg #[.int .i64 0, .int .i64 0], .int .i64 2]) ∧ Below w.heap.size w w' := by
  have TH := Lib.hid (fun (W : World) (hg : Gr ((w.alloc (.cells #[.int .i64 p.fl, .int .i64 p.fh, .int .i64 p.bl, .int .i64 p.bh, .int .i64 p.ti, .int .i64 p.ne, .int .i64 p.fa, v] 26)).alloc (.cells #[.int .i64 0, .int .i64 0] 23)) W) => TsA.lasts p.l _ _ _ hT (((Gr.alloc _ _).tr (Gr.alloc _ _)).tr hg))
  have hg0 := Gr.same ((w.alloc (.cells #[.int .i64 p.fl, .int .i64 p.fh, .int .i64 p.bl, .int .i64 p.bh, .int .i64 p.ti, .int .i64 p.ne, .int .i64 p.fa, v] 26)).alloc (.cells #[.int .i64 0, .int .i64 0] 23))
  have hal := @cal
  clear hT
  go_enter Tryz.func104, Tryz.ntmps104
  go_wp2_with fail
  refine (rpair_is hok.out (TH.out _ hg0)).mono ?_
  rintro e w1 ⟨rfl, hb1⟩
  have gg1 : Gr _ _ := hb1
  have hg1 := Gr.tr hg0 gg1
  obtain ⟨hc, hf, hz⟩ := bcell hg1
  have s10 : w.heap.size < w1.heap.size := hz _ (by first | (simp <;> omega) | omega)
  have s11 : w.heap.size + 1 < w1.heap.size := hz _ (by first | (simp <;> omega) | omega)
  have n10 := Nat.ne_of_lt s10
  have n11 := Nat.ne_of_lt s11
  go_wp2
  exact bodyPost_ret (v := .tuple #[.agg #[.int .i64 0, .int .i64 0], .int .i64 2]) (by simp [results, Tryz.results104, go_sem, hc]) rfl ⟨rfl, ((show Below w.heap.size w _ from ((Gr.alloc _ _).tr (Gr.alloc _ _)).tr hg1).setCell (by first | (simp <;> omega) | omega) _).setCell (by first | (simp <;> omega) | omega) _⟩
theorem ropen_none (p : Pr) (v : Value) (w : World) (hT : TsA p.l v w) (r1 r2 : Int) (hok : Hid (p.ok = true)) (hr : Hid (p.rall = (r1, r2))) (he : decide (r2 < r1) = true) :
    Calls Tryz.prog 104 #[.agg #[.int .i64 p.fl, .int .i64 p.fh, .int .i64 p.bl, .int .i64 p.bh, .int .i64 p.ti, .int .i64 p.ne, .int .i64 p.fa, v], .bool true] w fun e w' => e = .returned (.tuple #[.agg #[.int .i64 0, .int .i64 0], .int .i64 4]) ∧ Below w.heap.size w w' := by
  have TH := Lib.hid (fun (W : World) (hg : Gr ((w.alloc (.cells #[.int .i64 p.fl, .int .i64 p.fh, .int .i64 p.bl, .int .i64 p.bh, .int .i64 p.ti, .int .i64 p.ne, .int .i64 p.fa, v] 26)).alloc (.cells #[.int .i64 0, .int .i64 0] 23)) W) => TsA.lasts p.l _ _ _ hT (((Gr.alloc _ _).tr (Gr.alloc _ _)).tr hg))
  have hg0 := Gr.same ((w.alloc (.cells #[.int .i64 p.fl, .int .i64 p.fh, .int .i64 p.bl, .int .i64 p.bh, .int .i64 p.ti, .int .i64 p.ne, .int .i64 p.fa, v] 26)).alloc (.cells #[.int .i64 0, .int .i64 0] 23))
  have hal := @cal
  have HA : Hid (∀ W : World, TsA p.l v W → Calls Tryz.prog 130 #[.agg #[.int .i64 p.fl, .int .i64 p.fh, .int .i64 p.bl, .int .i64 p.bh, .int .i64 p.ti, .int .i64 p.ne, .int .i64 p.fa, v]] W fun e w' => e = .returned (.agg #[.int .i64 r1, .int .i64 r2]) ∧ Below W.heap.size W w') := Lib.hid fun W h => by
    have := rall_any p v W hok.out h
    rwa [hr.out] at this
  clear hT
  go_enter Tryz.func104, Tryz.ntmps104
  go_wp2_with fail
  refine (rpair_is hok.out (TH.out _ hg0)).mono ?_
  rintro e w1 ⟨rfl, hb1⟩
  have gg1 : Gr _ _ := hb1
  have hg1 := Gr.tr hg0 gg1
  obtain ⟨hc, hf, hz⟩ := bcell hg1
  have s10 : w.heap.size < w1.heap.size := hz _ (by first | (simp <;> omega) | omega)
  have s11 : w.heap.size + 1 < w1.heap.size := hz _ (by first | (simp <;> omega) | omega)
  have n10 := Nat.ne_of_lt s10
  have n11 := Nat.ne_of_lt s11
  go_wp2_with fail
  clear hc hf hz
  refine (HA.out _ (TH.out _ hg1)).mono ?_
  rintro e w2 ⟨rfl, hb2⟩
  have gg2 : Gr _ _ := hb2
  have hg2 := Gr.tr hg1 gg2
  obtain ⟨hc, hf, hz⟩ := bcell hg2
  have s20 : w.heap.size < w2.heap.size := hz _ (by first | (simp <;> omega) | omega)
  have s21 : w.heap.size + 1 < w2.heap.size := hz _ (by first | (simp <;> omega) | omega)
  have n20 := Nat.ne_of_lt s20
  have n21 := Nat.ne_of_lt s21
  go_wp2_with fail
  clear hc hf hz
  refine (rempty_any _ _ _).mono ?_
  rintro e w3 ⟨rfl, hb3⟩
  have gg3 : Gr _ _ := (Gr.alloc _ _).tr hb3
  have hg3 := Gr.tr hg2 gg3
  obtain ⟨hc, hf, hz⟩ := bcell hg3
  have s30 : w.heap.size < w3.heap.size := hz _ (by first | (simp <;> omega) | omega)
  have s31 : w.heap.size + 1 < w3.heap.size := hz _ (by first | (simp <;> omega) | omega)
  have n30 := Nat.ne_of_lt s30
  have n31 := Nat.ne_of_lt s31
  have y20 := ((bcell hb3).1 w2.heap.size 0 (by simp)).trans (show _ = some (.int .i64 r1) by simp)
  have y21 := ((bcell hb3).1 w2.heap.size 1 (by simp)).trans (show _ = some (.int .i64 r2) by simp)
  go_wp2
  exact bodyPost_ret (v := .tuple #[.agg #[.int .i64 0, .int .i64 0], .int .i64 4]) (by simp [results, Tryz.results104, go_sem, hc]) rfl ⟨rfl, ((show Below w.heap.size w _ from ((Gr.alloc _ _).tr (Gr.alloc _ _)).tr hg3).setCell (by first | (simp <;> omega) | omega) _).setCell (by first | (simp <;> omega) | omega) _⟩
theorem ropen_ok (p : Pr) (v : Value) (w : World) (hT : TsA p.l v w) (r1 r2 : Int) (hok : Hid (p.ok = true)) (hr : Hid (p.rall = (r1, r2))) (he : decide (r2 < r1) = false) :
    Calls Tryz.prog 104 #[.agg #[.int .i64 p.fl, .int .i64 p.fh, .int .i64 p.bl, .int .i64 p.bh, .int .i64 p.ti, .int .i64 p.ne, .int .i64 p.fa, v], .bool true] w fun e w' => e = .returned (.tuple #[.agg #[.int .i64 r1, .int .i64 r2], .int .i64 0]) ∧ Below w.heap.size w w' := by
  have TH := Lib.hid (fun (W : World) (hg : Gr ((w.alloc (.cells #[.int .i64 p.fl, .int .i64 p.fh, .int .i64 p.bl, .int .i64 p.bh, .int .i64 p.ti, .int .i64 p.ne, .int .i64 p.fa, v] 26)).alloc (.cells #[.int .i64 0, .int .i64 0] 23)) W) => TsA.lasts p.l _ _ _ hT (((Gr.alloc _ _).tr (Gr.alloc _ _)).tr hg))
  have hg0 := Gr.same ((w.alloc (.cells #[.int .i64 p.fl, .int .i64 p.fh, .int .i64 p.bl, .int .i64 p.bh, .int .i64 p.ti, .int .i64 p.ne, .int .i64 p.fa, v] 26)).alloc (.cells #[.int .i64 0, .int .i64 0] 23))
  have hal := @cal
  have HA : Hid (∀ W : World, TsA p.l v W → Calls Tryz.prog 130 #[.agg #[.int .i64 p.fl, .int .i64 p.fh, .int .i64 p.bl, .int .i64 p.bh, .int .i64 p.ti, .int .i64 p.ne, .int .i64 p.fa, v]] W fun e w' => e = .returned (.agg #[.int .i64 r1, .int .i64 r2]) ∧ Below W.heap.size W w') := Lib.hid fun W h => by
    have := rall_any p v W hok.out h
    rwa [hr.out] at this
  clear hT
  go_enter Tryz.func104, Tryz.ntmps104
  go_wp2_with fail
  refine (rpair_is hok.out (TH.out _ hg0)).mono ?_
  rintro e w1 ⟨rfl, hb1⟩
  have gg1 : Gr _ _ := hb1
  have hg1 := Gr.tr hg0 gg1
  obtain ⟨hc, hf, hz⟩ := bcell hg1
  have s10 : w.heap.size < w1.heap.size := hz _ (by first | (simp <;> omega) | omega)
  have s11 : w.heap.size + 1 < w1.heap.size := hz _ (by first | (simp <;> omega) | omega)
  have n10 := Nat.ne_of_lt s10
  have n11 := Nat.ne_of_lt s11
  go_wp2_with fail
  clear hc hf hz
  refine (HA.out _ (TH.out _ hg1)).mono ?_
  rintro e w2 ⟨rfl, hb2⟩
  have gg2 : Gr _ _ := hb2
  have hg2 := Gr.tr hg1 gg2
  obtain ⟨hc, hf, hz⟩ := bcell hg2
  have s20 : w.heap.size < w2.heap.size := hz _ (by first | (simp <;> omega) | omega)
  have s21 : w.heap.size + 1 < w2.heap.size := hz _ (by first | (simp <;> omega) | omega)
  have n20 := Nat.ne_of_lt s20
  have n21 := Nat.ne_of_lt s21
  go_wp2_with fail
  clear hc hf hz
  refine (rempty_any _ _ _).mono ?_
  rintro e w3 ⟨rfl, hb3⟩
  have gg3 : Gr _ _ := (Gr.alloc _ _).tr hb3
  have hg3 := Gr.tr hg2 gg3
  obtain ⟨hc, hf, hz⟩ := bcell hg3
  have s30 : w.heap.size < w3.heap.size := hz _ (by first | (simp <;> omega) | omega)
  have s31 : w.heap.size + 1 < w3.heap.size := hz _ (by first | (simp <;> omega) | omega)
  have n30 := Nat.ne_of_lt s30
  have n31 := Nat.ne_of_lt s31
  have y20 := ((bcell hb3).1 w2.heap.size 0 (by simp)).trans (show _ = some (.int .i64 r1) by simp)
  have y21 := ((bcell hb3).1 w2.heap.size 1 (by simp)).trans (show _ = some (.int .i64 r2) by simp)
  go_wp2
  exact bodyPost_ret (v := .tuple #[.agg #[.int .i64 r1, .int .i64 r2], .int .i64 0]) (by simp [results, Tryz.results104, go_sem, hc]) rfl ⟨rfl, ((show Below w.heap.size w _ from ((Gr.alloc _ _).tr (Gr.alloc _ _)).tr hg3).setCell (by first | (simp <;> omega) | omega) _).setCell (by first | (simp <;> omega) | omega) _⟩
theorem ropen_is {p : Pr} {v : Value} {b : Bool} {x y e : Int} {w : World} (h : p.ropen b = (x, y, e)) (hT : TsA p.l v w) :
    Calls Tryz.prog 104 #[.agg #[.int .i64 p.fl, .int .i64 p.fh, .int .i64 p.bl, .int .i64 p.bh, .int .i64 p.ti, .int .i64 p.ne, .int .i64 p.fa, v], .bool b] w fun e' w' => e' = .returned (.tuple #[.agg #[.int .i64 x, .int .i64 y], .int .i64 e]) ∧ Below w.heap.size w w' := by
  unfold Pr.ropen at h
  cases hok : p.ok with
  | false =>
    rw [if_neg (by simp [hok])] at h
    cases h
    exact ropen_bad p v w hT b (Lib.hid hok)
  | true =>
    rw [if_pos hok] at h
    cases b with
    | false => cases h; exact ropen_range p v w hT (Lib.hid hok)
    | true =>
      obtain ⟨h1, h2⟩ := Pr.rall_eq hok
      unfold Pr.power at h
      rw [if_pos rfl, if_pos hok] at h
      by_cases hp : p.pw.1 ≤ p.pw.2
      · rw [if_pos hp] at h
        cases h
        have e := h2 hp
        exact ropen_ok p v w hT p.pw.1 p.pw.2 (Lib.hid hok) (Lib.hid e) (decide_eq_false (by omega))
      · rw [if_neg hp] at h
        cases h
        exact ropen_none p v w hT p.rall.1 p.rall.2 (Lib.hid hok) (Lib.hid rfl) (decide_eq_true (by omega))
theorem Pr.ropen_true (p : Pr) : p.ropen true = p.power := by
  unfold Pr.ropen
  rw [if_pos rfl]
  cases h : p.ok with
  | false => rw [if_neg (by simp)]; unfold Pr.power; rw [if_neg (by simp [h])]
  | true => rw [if_pos rfl]
theorem rpower_any (p : Pr) (v : Value) (w : World) (hT : TsA p.l v w) :
    Calls Tryz.prog 65 #[.agg #[.int .i64 p.fl, .int .i64 p.fh, .int .i64 p.bl, .int .i64 p.bh, .int .i64 p.ti, .int .i64 p.ne, .int .i64 p.fa, v]] w fun e w' => e = .returned (.tuple #[.agg #[.int .i64 p.power.1, .int .i64 p.power.2.1], .int .i64 p.power.2.2]) ∧ Below w.heap.size w w' := by
  obtain ⟨x, y, ee, h⟩ : ∃ x y e, p.power = (x, y, e) := ⟨_, _, _, rfl⟩
  rw [h]
  have HO := Lib.hid (p.ropen_true.trans h)
  clear h
  have TH := Lib.hid (fun (W : World) (hg : Gr ((w.alloc (.cells #[.int .i64 p.fl, .int .i64 p.fh, .int .i64 p.bl, .int .i64 p.bh, .int .i64 p.ti, .int .i64 p.ne, .int .i64 p.fa, v] 26)).alloc (.cells #[.int .i64 0, .int .i64 0] 23)) W) => TsA.lasts p.l _ _ _ hT (((Gr.alloc _ _).tr (Gr.alloc _ _)).tr hg))
  have hg0 := Gr.same ((w.alloc (.cells #[.int .i64 p.fl, .int .i64 p.fh, .int .i64 p.bl, .int .i64 p.bh, .int .i64 p.ti, .int .i64 p.ne, .int .i64 p.fa, v] 26)).alloc (.cells #[.int .i64 0, .int .i64 0] 23))
  have hal := @cal
  clear hT
  go_enter Tryz.func65, Tryz.ntmps65
  go_wp2_with fail
  refine (ropen_is HO.out (TH.out _ hg0)).mono ?_
  rintro e w1 ⟨rfl, hb1⟩
  have gg1 : Gr _ _ := hb1
  have hg1 := Gr.tr hg0 gg1
  obtain ⟨hc, hf, hz⟩ := bcell hg1
  have s10 : w.heap.size < w1.heap.size := hz _ (by first | (simp <;> omega) | omega)
  have s11 : w.heap.size + 1 < w1.heap.size := hz _ (by first | (simp <;> omega) | omega)
  have n10 := Nat.ne_of_lt s10
  have n11 := Nat.ne_of_lt s11
  go_wp2
  exact bodyPost_ret (v := .tuple #[.agg #[.int .i64 x, .int .i64 y], .int .i64 ee]) (by simp [results, Tryz.results65, go_sem, hc]) rfl ⟨rfl, ((show Below w.heap.size w _ from ((Gr.alloc _ _).tr (Gr.alloc _ _)).tr hg1).setCell (by first | (simp <;> omega) | omega) _).setCell (by first | (simp <;> omega) | omega) _⟩
theorem Sg.stands_iff (s : Sg) (x : Int) : s.why x x = 0 ↔ s.sl = false ∧ 0 ≤ s.hi ∧ s.lo ≤ 2000 ∧ s.pw.1 ≤ x ∧ x ≤ s.pw.2 := by
  constructor
  · exact Sg.why_zero
  · rintro ⟨h0, h1, h2, h3, h4⟩
    refine Sg.why5 (by simp [h0]) (by omega) ?_ (by omega)
    unfold Sg.tooNear
    simp only [Bool.or_eq_true, decide_eq_true_eq]
    omega
def Nle (a b : Nat) : Prop := cnt a < cnt b ∨ cnt a = cnt b ∧ a ≤ b
theorem Nle.refl (a : Nat) : Nle a a := .inr ⟨rfl, Nat.le_refl _⟩
theorem Nle.trans {a b c : Nat} (h : Nle a b) (k : Nle b c) : Nle a c := by unfold Nle at *; omega
theorem rpw_stands {p : Pr} (h : p.ok = true) {t : Th} (ht : t ∈ p.l) {x : Int} : ((rpw p.ti p.ne p.fa t).1 ≤ x ∧ x ≤ (rpw p.ti p.ne p.fa t).2) ↔ (t.see p.ti p.ne p.fa).why x x = 0 := by
  rw [Sg.stands_iff]
  have hlh := Th.lohi h ht
  have hst : (t.see p.ti p.ne p.fa).st = ovl (t.a - t.f, t.b - t.e) (0, 2000) := rfl
  have hsl : (t.see p.ti p.ne p.fa).sl = !(decide (t.c ≤ t.h + p.ti) && decide (t.g ≤ t.d + p.ti)) := by
    show decide (p.ti < imax (t.c - t.h) (t.g - t.d)) = _
    rw [Bool.eq_iff_iff]
    simp only [decide_eq_true_eq, Bool.not_eq_true', Bool.and_eq_false_iff, decide_eq_false_iff_not]
    unfold imax; split <;> omega
  have hpw : (t.see p.ti p.ne p.fa).pw = ((t.see p.ti p.ne p.fa).st.1 * (if t.z = 0 then p.ne else t.z), ((t.see p.ti p.ne p.fa).st.2 + 1) * (if t.z = 0 then p.fa else t.z) - 1) := by
    unfold Sg.pw
    by_cases hz : t.z = 0
    · rw [Th.far hz, if_pos hz, if_pos hz]; rfl
    · have hw : (t.see p.ti p.ne p.fa).wit = .mark t.z := by simp [Th.see, Th.wit, hz]
      rw [hw, if_neg hz, if_neg hz]; rfl
  have hne : (t.see p.ti p.ne p.fa).st.1 ≤ (t.see p.ti p.ne p.fa).st.2 ↔ 0 ≤ (t.see p.ti p.ne p.fa).hi ∧ (t.see p.ti p.ne p.fa).lo ≤ 2000 := by
    rw [(t.see p.ti p.ne p.fa).st_eq]; simp only; split <;> split <;> omega
  unfold rpw
  rw [← hst]
  cases hl : (decide (t.c ≤ t.h + p.ti) && decide (t.g ≤ t.d + p.ti)) with
  | false =>
    rw [if_neg (by simp)]
    rw [hl] at hsl
    constructor
    · intro c; have := c.1; have := c.2; simp only at *; omega
    · rintro ⟨c, -⟩; rw [hsl] at c; cases c
  | true =>
    rw [hl] at hsl
    by_cases hs : (t.see p.ti p.ne p.fa).st.1 ≤ (t.see p.ti p.ne p.fa).st.2
    · rw [if_pos ⟨rfl, hs⟩, hpw]
      have := hne.1 hs
      exact ⟨fun c => ⟨hsl, this.1, this.2, c⟩, fun c => c.2.2.2⟩
    · rw [if_neg (fun c => hs c.2)]
      constructor
      · intro c; have := c.1; have := c.2; simp only at *; omega
      · rintro ⟨-, c1, c2, -⟩; exact absurd (hne.2 ⟨c1, c2⟩) hs
theorem why_some {p : Pr} (h : p.ok = true) {t : Th} (ht : t ∈ p.l) {P Q : Int} (hPQ : P ≤ Q) : (t.see p.ti p.ne p.fa).why P Q = 0 ↔ ∃ x, P ≤ x ∧ x ≤ Q ∧ (t.see p.ti p.ne p.fa).why x x = 0 := by
  have hb := p.bounds h
  have hlh := Th.lohi h ht
  have hne := hb.ne0
  have hnf := hb.ne1
  constructor
  · intro hw
    obtain ⟨z0, z1, z2, z3, z4⟩ := Sg.why_zero hw
    have u0 : 0 ≤ (t.see p.ti p.ne p.fa).st.1 := by rw [(t.see p.ti p.ne p.fa).st_eq]; simp only; split <;> omega
    have u1 : (t.see p.ti p.ne p.fa).st.1 ≤ (t.see p.ti p.ne p.fa).st.2 := by rw [(t.see p.ti p.ne p.fa).st_eq]; simp only; split <;> split <;> omega
    have hpp : (t.see p.ti p.ne p.fa).pw.1 ≤ (t.see p.ti p.ne p.fa).pw.2 := by
      by_cases hz : t.z = 0
      · have hp : (t.see p.ti p.ne p.fa).pw = ((t.see p.ti p.ne p.fa).st.1 * p.ne, ((t.see p.ti p.ne p.fa).st.2 + 1) * p.fa - 1) := by unfold Sg.pw; rw [Th.far hz]; rfl
        rw [hp]
        have a1 : (t.see p.ti p.ne p.fa).st.1 * p.ne ≤ (t.see p.ti p.ne p.fa).st.2 * p.fa := Int.mul_le_mul u1 hnf (by omega) (by omega)
        simp only; rw [Int.add_mul]; omega
      · have hzz := (hb.things t ht).2
        have hw' : (t.see p.ti p.ne p.fa).wit = .mark t.z := by simp [Th.see, Th.wit, hz]
        have hp : (t.see p.ti p.ne p.fa).pw = ((t.see p.ti p.ne p.fa).st.1 * t.z, ((t.see p.ti p.ne p.fa).st.2 + 1) * t.z - 1) := by unfold Sg.pw; rw [hw']; rfl
        rw [hp]
        have a1 : (t.see p.ti p.ne p.fa).st.1 * t.z ≤ (t.see p.ti p.ne p.fa).st.2 * t.z := Int.mul_le_mul_of_nonneg_right u1 (by omega)
        simp only; rw [Int.add_mul]; omega
    by_cases c : P ≤ (t.see p.ti p.ne p.fa).pw.1
    · exact ⟨_, c, z3, (Sg.stands_iff _ _).2 ⟨z0, z1, z2, Int.le_refl _, hpp⟩⟩
    · exact ⟨P, Int.le_refl _, hPQ, (Sg.stands_iff _ _).2 ⟨z0, z1, z2, by omega, z4⟩⟩
  · rintro ⟨x, h1, h2, hx⟩
    obtain ⟨z0, z1, z2, z3, z4⟩ := (Sg.stands_iff _ _).1 hx
    refine Sg.why5 (by simp [z0]) (by omega) ?_ (by omega)
    unfold Sg.tooNear
    simp only [Bool.or_eq_true, decide_eq_true_eq]
    omega
theorem ovl_why {p : Pr} (h : p.ok = true) {t : Th} (ht : t ∈ p.l) {P Q : Int} (hPQ : P ≤ Q) : decide ((ovl (P, Q) (rpw p.ti p.ne p.fa t)).2 < (ovl (P, Q) (rpw p.ti p.ne p.fa t)).1) = !decide ((t.see p.ti p.ne p.fa).why P Q = 0) := by
  have hw := why_some h ht hPQ
  have hx := fun x => rpw_stands h ht (x := x)
  have key : (ovl (P, Q) (rpw p.ti p.ne p.fa t)).1 ≤ (ovl (P, Q) (rpw p.ti p.ne p.fa t)).2 ↔ (t.see p.ti p.ne p.fa).why P Q = 0 := by
    rw [hw]
    constructor
    · intro hc
      refine ⟨(ovl (P, Q) (rpw p.ti p.ne p.fa t)).1, ?_, ?_, (hx _).1 ⟨?_, ?_⟩⟩ <;> revert hc <;> unfold ovl <;> simp only <;> split <;> split <;> omega
    · rintro ⟨x, h1, h2, h3⟩
      have := (hx x).2 h3
      unfold ovl; simp only; split <;> split <;> omega
  by_cases c : (t.see p.ti p.ne p.fa).why P Q = 0
  · rw [decide_eq_true c]
    have := key.2 c
    exact decide_eq_false (by omega)
  · rw [decide_eq_false c]
    exact decide_eq_true (Int.not_le.1 fun d => c (key.1 d))
end Go.Proofs.YtcngaohfemdfjaaGreat
namespace Go.Proofs.YtcngaohfemdfjaaGreat
open Go.RowKit
theorem wlg {P : Program} {ops : Array Oper} {rest : List Oper} {o : Oper} {a : Act} {w : World} {Q : Exit → Act → World → Prop} {vs us : List Value} {T ty : TypeId} {x : Operand} {g i n : Nat} (hr : rowOf P ty n = true) (hn : us.length = n) (hg : Box w g vs T) (hu : (vs.drop i).take n = us)
    (ho : o.op = .load ty x) (hw : Region.wanted o (yielded ops a.tmps) = true) (hx : a.eval x = .pointer (some ⟨g, i, none⟩))
    (h : wpList P ops Q rest (a.put o.dst (.agg us.toArray)) w) : wpList P ops Q (o :: rest) a w := by
  refine BigFrame.wpList_want hw fun K hK => ?_
  unfold Oper.wp execOp
  simp only [ho, hx, Instr.loadAt, Instr.sureAddr, Sem.run_bind, Sem.run_pure, Result.andThen_ok, run_loadPart hr hn hg hu]
  exact hK _ _ h
theorem Cd.whole (k : Cd) : (k.cs.drop 0).take 17 = k.cs := rfl
end Go.Proofs.YtcngaohfemdfjaaGreat
