import Derived.Test.YtcngaohfemdfjaaGreatY34
import Derived.Test.YtcngaohfemdfjaaGreatY33
import Derived.Test.YtcngaohfemdfjaaGreatX44
import Derived.Test.YtcngaohfemdfjaaGreatXg
import Derived.Test.YtcngaohfemdfjaaGreatX45
import Derived.Test.YtcngaohfemdfjaaGreatX46a
import Derived.Test.YtcngaohfemdfjaaGreatY06
import Derived.RegionTactic
import Derived.Deep.QuietTactic
import Derived.BigQuiet
set_option linter.unusedVariables false
set_option linter.unusedSimpArgs false
namespace Go.Proofs.YtcngaohfemdfjaaGreat
open Go.RowKit
/-! What MountTrue asks of the numbers. -/
/-- Of a thing that is seen, and that a trimming does not hurt. -/
theorem Tm.why_zero {t : Tm} {x : Vw} (h : t.why x = 0) : t.k.ehi - t.k.squeeze ≤ t.dist x.sb ∧ t.dist x.sa ≤ t.k.elo + t.k.prism ∧ x.sb ≤ t.win + t.k.front ∧ t.win - t.k.deep ≤ x.sa ∧ t.over x ≤ 0 := by
  unfold Tm.why at h
  split at h
  · omega
  · split at h
    · omega
    · split at h
      · omega
      · split at h
        · omega
        · split at h
          · omega
          · omega
theorem Tm.over_le {t : Tm} {x : Vw} (h : t.over x ≤ 0) : -t.k.half + t.k.step * t.u.a - x.la ≤ 0 ∧ x.lb - (t.k.half - t.k.step * t.u.b) ≤ 0 ∧ -t.k.half + t.k.step * t.u.c - x.ra ≤ 0 ∧ x.rb - (t.k.half - t.k.step * t.u.d) ≤ 0 := by
  unfold Tm.over at h
  simp only [List.foldl_cons, List.foldl_nil, mimax_le] at h
  omega
/-- What is so of a thing: either it moved, or what is told of it holds for each of its places. -/
theorem true_thing {k : Cd} {u : Cu} (he : k.err [] = 0) (hu : u.isT k.cuts = true) (hk : k.okT u = true) {i : Nat} {t : Th} (ht : k.p.l[i]? = some t) :
    ∃ y : Int, k.p.why i = (y, 0) ∧ ((y ≠ 0 ∧ (setTo k.p.sees).testBit i = false) ∨ (y = 0 ∧ (setTo k.p.sees).testBit i = true ∧
      k.ehi - k.squeeze ≤ 2 * k.half - k.step * (u.b + u.c) - (t.b - t.e) ∧ 2 * k.half - k.step * (u.b + u.c) - (t.a - t.f) ≤ k.elo + k.prism ∧ t.b - t.e ≤ k.step * (u.a - u.c) + k.front ∧ k.step * (u.a - u.c) - k.deep ≤ t.a - t.f ∧
      -k.half + k.step * u.a - t.a ≤ 0 ∧ t.b - (k.half - k.step * u.b) ≤ 0 ∧ -k.half + k.step * u.c - t.e ≤ 0 ∧ t.f - (k.half - k.step * u.d) ≤ 0)) := by
  obtain ⟨hok, -, -, hpw⟩ := Cd.err_zero he
  obtain ⟨s, hs, hse⟩ := Pr.seen_at (p := k.p) ht
  have hv := Pr.view_some ht hs
  refine ⟨_, Pr.why_at hok hpw hs, ?_⟩
  by_cases h0 : s.why k.p.pw.1 k.p.pw.2 = 0
  · rw [if_pos h0] at hv
    have hi : i < k.p.l.length := (List.getElem?_eq_some_iff.1 ht).1
    have hm : ((i : Int), (⟨t.a, t.b, t.e, t.f, s.lo, s.hi⟩ : Vw)) ∈ k.p.sees := seesTo_mem hi hv
    have hf : (⟨k, 0, u⟩ : Tm).first k.p.sees = (0, 0) := by unfold Cd.okT at hk; simpa using hk
    have hw := Tm.why_zero (Tm.first_zero hf _ hm)
    have ho := Tm.over_le hw.2.2.2.2
    refine .inr ⟨h0, (setTo_bit _ i).2 ⟨_, hm, by simp⟩, ?_⟩
    have e1 : s.lo = t.a - t.f := by rw [hse]; rfl
    have e2 : s.hi = t.b - t.e := by rw [hse]; rfl
    unfold Tm.dist Tm.win at hw
    dsimp only at hw ho
    rw [e1, e2] at hw
    exact ⟨hw.1, hw.2.1, hw.2.2.1, hw.2.2.2.1, ho.1, ho.2.1, ho.2.2.1, ho.2.2.2⟩
  · rw [if_neg h0] at hv
    refine .inl ⟨h0, ?_⟩
    cases hb : (setTo k.p.sees).testBit i with
    | false => rfl
    | true =>
      obtain ⟨q, hq, e⟩ := (setTo_bit _ i).1 hb
      obtain ⟨j, hj, h1, hv'⟩ := mem_seesTo hq
      have : j = i := by rw [h1] at e; simpa using e
      subst this
      rw [hv] at hv'
      cases hv'
theorem first_zero_of {k : Cd} {u : Cu} (h : k.okT u = true) : (⟨k, 0, u⟩ : Tm).first k.p.sees = (0, 0) := by unfold Cd.okT at h; simpa using h
theorem bit_zero (m j : Nat) (hm : m < 4096) (hj : j < 12) (h : m.testBit j = false) : bits BinOp.and IntKind.i64 ((m : Int) / 2 ^ j) 1 = 0 := by
  have h1 : m / 2 ^ j ≤ m := Nat.div_le_self _ _
  rw [show ((m : Int) / 2 ^ j) = ((m / 2 ^ j : Nat) : Int) from by simp, show (1 : Int) = ((1 : Nat) : Int) from rfl, (bits_nat .i64 63 (by decide) wraps_i64 (m / 2 ^ j) 1 (by omega) (by omega)).1, Nat.and_one_is_mod]
  rw [Nat.testBit_eq_decide_div_mod_eq, decide_eq_false_iff_not] at h
  have hz : m / 2 ^ j % 2 < 2 := Nat.mod_lt _ (by decide)
  generalize m / 2 ^ j % 2 = z at *
  omega
theorem Pr.ord {p : Pr} (h : p.ok = true) {t : Th} (ht : t ∈ p.l) : t.a ≤ t.b ∧ t.e ≤ t.f := by
  unfold Pr.ok valid at h
  rw [Bool.and_eq_true] at h
  have := List.all_eq_true.1 h.2 t ht
  simp [Th.valid, okSp] at this
  omega
end Go.Proofs.YtcngaohfemdfjaaGreat
