import Derived.Test.YtcngaohfemdfjaaGreatY34
import Derived.Test.YtcngaohfemdfjaaGreatY33
import Derived.Test.YtcngaohfemdfjaaGreatX44
set_option linter.unusedVariables false
set_option linter.unusedSimpArgs false
namespace Go.Proofs.YtcngaohfemdfjaaGreat
open Go.RowKit

/-! What MountMore asks of the numbers: a card with less room. -/
structure Cd.Less (k x : Cd) : Prop where
  p : x.p = k.p
  half : x.half = k.half
  step : x.step = k.step
  cuts : x.cuts ≤ k.cuts
  elo : x.elo ≤ k.elo
  ehi : k.ehi ≤ x.ehi
  prism : x.prism ≤ k.prism
  squeeze : x.squeeze ≤ k.squeeze
  front : x.front ≤ k.front
  deep : x.deep ≤ k.deep
theorem Cd.Less.dist {k x : Cd} (h : k.Less x) (u : Cu) (s : Int) : (⟨x, 0, u⟩ : Tm).dist s = (⟨k, 0, u⟩ : Tm).dist s := by
  unfold Tm.dist
  dsimp only
  rw [h.half, h.step]
theorem Cd.Less.win {k x : Cd} (h : k.Less x) (u : Cu) : (⟨x, 0, u⟩ : Tm).win = (⟨k, 0, u⟩ : Tm).win := by
  unfold Tm.win
  dsimp only
  rw [h.step]
theorem Cd.Less.over {k x : Cd} (h : k.Less x) (u : Cu) (v : Vw) : (⟨x, 0, u⟩ : Tm).over v = (⟨k, 0, u⟩ : Tm).over v := by
  unfold Tm.over
  dsimp only
  rw [h.half, h.step]
theorem why_zero_iff {t : Tm} {x : Vw} : t.why x = 0 ↔ t.k.ehi - t.k.squeeze ≤ t.dist x.sb ∧ t.dist x.sa ≤ t.k.elo + t.k.prism ∧ x.sb ≤ t.win + t.k.front ∧ t.win - t.k.deep ≤ x.sa ∧ t.over x ≤ 0 := by
  unfold Tm.why
  split
  · omega
  · split
    · omega
    · split
      · omega
      · split
        · omega
        · split
          · omega
          · omega
theorem Cd.Less.why {k x : Cd} (h : k.Less x) {u : Cu} {v : Vw} (hw : (⟨x, 0, u⟩ : Tm).why v = 0) : (⟨k, 0, u⟩ : Tm).why v = 0 := by
  rw [why_zero_iff] at hw ⊢
  rw [h.dist, h.dist, h.win, h.over] at hw
  dsimp only at hw ⊢
  have := h.elo; have := h.ehi; have := h.prism; have := h.squeeze; have := h.front; have := h.deep
  omega
theorem first_zero_iff {t : Tm} : ∀ {l : List (Int × Vw)}, t.first l = (0, 0) ↔ ∀ q ∈ l, t.why q.2 = 0
  | [] => by simp [Tm.first]
  | r :: l => by
    constructor
    · exact Tm.first_zero
    · intro h
      unfold Tm.first
      rw [if_pos (h r (by simp))]
      exact first_zero_iff.2 fun q hq => h q (by simp [hq])
theorem Cd.Less.okT {k x : Cd} (h : k.Less x) {u : Cu} (hx : x.okT u = true) : k.okT u = true := by
  unfold Cd.okT at *
  rw [decide_eq_true_eq, first_zero_iff] at *
  rw [h.p] at hx
  exact fun q hq => h.why (hx q hq)
theorem isT_mono {u : Cu} {m n : Int} (h : u.isT m = true) (hmn : m ≤ n) : u.isT n = true := by
  unfold Cu.isT at *
  simp only [Bool.and_eq_true, decide_eq_true_eq] at *
  omega
/-- No fewer steps are enough. -/
theorem Cd.Less.trim {k x : Cd} (h : k.Less x) {u : Cu} (hx : x.trim = some u) : ∃ t, k.trim = some t ∧ t.a + t.b + t.c + t.d ≤ u.a + u.b + u.c + u.d := by
  obtain ⟨h1, h2⟩ := trim_is hx
  have h3 := isT_mono h1 h.cuts
  have h4 := h.okT h2
  obtain ⟨t, ht⟩ := trim_some h3 h4
  refine ⟨t, ht, ?_⟩
  have := trim_least ht h3 h4
  unfold Cu.bef Cu.sum at this
  omega
theorem Cd.Less.err {k x : Cd} (h : k.Less x) (hk : k.okc = true) (hx : x.okc = true) : x.err [] = k.err [] := by
  simp [Cd.err, h.p, hk, hx]
/-- Room. -/
theorem Cd.Less.rlo {k x : Cd} (h : k.Less x) (u : Cu) : (⟨k, 0, u⟩ : Tm).rlo ≤ (⟨x, 0, u⟩ : Tm).rlo := by
  have e : (⟨k, 0, u⟩ : Tm).dist (k.elo + k.prism) ≤ (⟨k, 0, u⟩ : Tm).dist (x.elo + x.prism) := by
    unfold Tm.dist
    have := h.elo; have := h.prism
    omega
  unfold Tm.rlo
  rw [h.dist, h.win]
  dsimp only
  have := h.deep
  rw [mimax_le, mimax_le]
  have f1 : ∀ a b : Int, a ≤ imax a b ∧ b ≤ imax a b := fun a b => by unfold imax; split <;> omega
  have g1 := f1 (imax 0 ((⟨k, 0, u⟩ : Tm).dist (x.elo + x.prism))) ((⟨k, 0, u⟩ : Tm).win - x.deep)
  have g2 := f1 0 ((⟨k, 0, u⟩ : Tm).dist (x.elo + x.prism))
  omega
theorem Cd.Less.rhi {k x : Cd} (h : k.Less x) (u : Cu) : (⟨x, 0, u⟩ : Tm).rhi ≤ (⟨k, 0, u⟩ : Tm).rhi := by
  have e : (⟨k, 0, u⟩ : Tm).dist (x.ehi - x.squeeze) ≤ (⟨k, 0, u⟩ : Tm).dist (k.ehi - k.squeeze) := by
    unfold Tm.dist
    have := h.ehi; have := h.squeeze
    omega
  unfold Tm.rhi
  rw [h.dist, h.win]
  dsimp only
  have := h.front
  rw [mle_imin, mle_imin]
  have f1 : ∀ a b : Int, imin a b ≤ a ∧ imin a b ≤ b := fun a b => by unfold imin; split <;> omega
  have g1 := f1 (imin 2000 ((⟨k, 0, u⟩ : Tm).dist (x.ehi - x.squeeze))) ((⟨k, 0, u⟩ : Tm).win + x.front)
  have g2 := f1 2000 ((⟨k, 0, u⟩ : Tm).dist (x.ehi - x.squeeze))
  omega
/-- Eyes. -/
theorem Cd.Less.eyes {k x : Cd} (h : k.Less x) (u : Cu) (a : Int × Int) (l : List (Int × Vw)) : ((⟨k, 0, u⟩ : Tm).eyesTo a l).1 ≤ ((⟨x, 0, u⟩ : Tm).eyesTo a l).1 ∧ ((⟨x, 0, u⟩ : Tm).eyesTo a l).2 ≤ ((⟨k, 0, u⟩ : Tm).eyesTo a l).2 := by
  constructor
  · rw [Tm.eyes_lo]
    have h1 := (Tm.eyes_lo ⟨x, 0, u⟩ _ l a).1 (Int.le_refl _)
    refine ⟨h1.1, fun q hq => ?_⟩
    have h2 := h1.2 q hq
    rw [h.dist] at h2
    have := h.prism
    dsimp only at h2 ⊢
    omega
  · rw [Tm.eyes_hi]
    have h1 := (Tm.eyes_hi ⟨x, 0, u⟩ _ l a).1 (Int.le_refl _)
    refine ⟨h1.1, fun q hq => ?_⟩
    have h2 := h1.2 q hq
    rw [h.dist] at h2
    have := h.squeeze
    dsimp only at h2 ⊢
    omega
/-- Depths. -/
theorem Cd.Less.deep_ok {k x : Cd} (h : k.Less x) {lo hi lo' hi' : Int} (hp : 0 ≤ k.p.pw.1) (hp2 : 0 ≤ k.p.pw.2) (h0 : 0 ≤ lo) (h1 : lo ≤ lo') (h2 : hi' ≤ hi) (h3 : 0 ≤ hi') (hx : (x.deepS lo' hi').2.2 = 0) :
    (k.deepS lo hi).2.2 = 0 ∧ (k.deepS lo hi).1 ≤ (x.deepS lo' hi').1 ∧ (x.deepS lo' hi').2.1 ≤ (k.deepS lo hi).2.1 := by
  unfold Cd.deepS at *
  rw [h.p] at *
  have d1 : k.p.pw.2 / (hi + 1) ≤ k.p.pw.2 / (hi' + 1) := div_anti hp2 (by omega) (by omega)
  have d2 : 0 < lo → k.p.pw.1 / lo' ≤ k.p.pw.1 / lo := fun h => div_anti hp h h1
  generalize k.p.pw.2 / (hi + 1) = q at *
  generalize k.p.pw.2 / (hi' + 1) = q' at *
  generalize k.p.pw.1 / lo = r at *
  generalize k.p.pw.1 / lo' = r' at *
  have hL : imax k.p.ne (q + 1) ≤ imax k.p.ne (q' + 1) := by unfold imax; (repeat' split) <;> omega
  have hU : (if 0 < lo' then imin k.p.fa r' else k.p.fa) ≤ (if 0 < lo then imin k.p.fa r else k.p.fa) := by
    by_cases c1 : 0 < lo
    · have := d2 c1
      rw [if_pos c1, if_pos (by omega)]
      unfold imin; (repeat' split) <;> omega
    · rw [if_neg c1]
      split
      · unfold imin; split <;> omega
      · omega
  generalize (if 0 < lo' then imin k.p.fa r' else k.p.fa) = U' at *
  generalize (if 0 < lo then imin k.p.fa r else k.p.fa) = U at *
  generalize imax k.p.ne (q + 1) = L at *
  generalize imax k.p.ne (q' + 1) = L' at *
  by_cases c : U' < L'
  · rw [if_pos c] at hx
    cases hx
  · rw [if_neg c] at hx ⊢
    rw [if_neg (by omega)]
    exact ⟨rfl, hL, hU⟩
end Go.Proofs.YtcngaohfemdfjaaGreat
