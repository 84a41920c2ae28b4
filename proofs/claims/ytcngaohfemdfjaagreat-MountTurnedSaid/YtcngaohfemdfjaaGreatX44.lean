import Derived.Test.YtcngaohfemdfjaaGreatY34
import Derived.Test.YtcngaohfemdfjaaGreatY33
import Derived.Test.YtcngaohfemdfjaaGreatX40
set_option linter.unusedVariables false
set_option linter.unusedSimpArgs false
namespace Go.Proofs.YtcngaohfemdfjaaGreat
open Go.RowKit

/-! What MountLeast, MountWhy and MountTrue ask of the numbers. -/
theorem trim_least {k : Cd} {x t : Cu} (ht : k.trim = some t) (hx : x.isT k.cuts = true) (hk : k.okT x = true) : ¬ x.bef t := by
  unfold Cd.trim at ht
  obtain ⟨-, l1, l2, e, ha⟩ := List.find?_eq_some_iff_append.1 ht
  have hm : x ∈ trims k.cuts := mem_trims.2 hx
  have hp := trims_bef k.cuts
  rw [e] at hm hp
  rcases List.mem_append.1 hm with h | h
  · have := ha x h
    simp [hk] at this
  · rcases List.mem_cons.1 h with rfl | h
    · exact fun hb => hb.irr hb
    · have h1 := (List.pairwise_append.1 hp).2.1
      exact (List.pairwise_cons.1 h1).1 x h |>.irr
theorem trim_some {k : Cd} {x : Cu} (hx : x.isT k.cuts = true) (hk : k.okT x = true) : ∃ t, k.trim = some t := by
  have : k.trim.isSome = true := by
    unfold Cd.trim
    rw [List.find?_isSome]
    exact ⟨x, mem_trims.2 hx, hk⟩
  exact Option.isSome_iff_exists.1 this
theorem trim_is {k : Cd} {t : Cu} (ht : k.trim = some t) : t.isT k.cuts = true ∧ k.okT t = true := by
  unfold Cd.trim at ht
  exact ⟨mem_trims.1 (List.mem_of_find?_eq_some ht), List.find?_some ht⟩
theorem err_cons {k : Cd} {u : Cu} (h : k.err [] = 0) (hu : u.isT k.cuts = true) : k.err [u] = 0 := by
  obtain ⟨h1, h2, -, h4⟩ := Cd.err_zero h
  simp [Cd.err, h1, h2, h4, hu]
/-- What hurts with another trimming. -/
theorem hurts_of {k : Cd} {u : Cu} (h : k.err [] = 0) (hu : u.isT k.cuts = true) :
    (k.okT u = true ∧ k.hurtsA u = (0, 0, 0)) ∨ (k.okT u = false ∧ ∃ n y, k.hurtsA u = (n, y, 11) ∧ 0 ≤ n ∧ n < k.p.l.length ∧ 1 ≤ y ∧ y ≤ 5) := by
  have he := err_cons h hu
  unfold Cd.okT Cd.hurtsA
  rw [if_pos he]
  by_cases h0 : (⟨k, 0, u⟩ : Tm).first k.p.sees = (0, 0)
  · exact .inl ⟨by simpa using h0, by rw [if_pos h0]⟩
  · refine .inr ⟨by simpa using h0, ?_⟩
    rw [if_neg h0]
    obtain ⟨q, hq, e1, e2⟩ := Tm.first_some h0
    obtain ⟨i, hi, e3, -⟩ := sees_shift (Cd.err_zero h).1 hq
    have hp : 0 ≤ (⟨k, 0, u⟩ : Tm).why q.2 ∧ (⟨k, 0, u⟩ : Tm).why q.2 ≤ 5 := by unfold Tm.why; (repeat' split) <;> omega
    rw [e1]
    exact ⟨_, _, rfl, by rw [e3]; omega, by rw [e3]; omega, by dsimp only; omega, hp.2⟩
theorem apartOf_some {es : List (Int × Vw)} {most a b : Int} : ∀ {l : List (Int × Vw)}, apartOf es most l = some (a, b) → ∃ q ∈ l, ∃ r ∈ es, q.1 = a ∧ r.1 = b ∧ most < q.2.sb - r.2.sa
  | [], h => by cases h
  | q :: l, h => by
    unfold apartOf at h
    split at h
    · rename_i c hc
      unfold apartIn at hc
      obtain ⟨r, hr, rfl⟩ := Option.map_eq_some_iff.1 hc
      have h1 := List.find?_some hr
      have h2 := List.mem_of_find?_eq_some hr
      injection h with h
      injection h with e1 e2
      exact ⟨q, by simp, r, h2, e1, e2, by simpa using h1⟩
    · obtain ⟨q', hq, r, hr, h1⟩ := apartOf_some h
      exact ⟨q', List.mem_cons_of_mem _ hq, r, hr, h1⟩
theorem obst_cases (k : Cd) : (∃ a b, k.obst = (1, a, b) ∧ k.p.apart (k.elo + k.prism + k.squeeze - k.ehi) = some (a, b)) ∨ (∃ a b, k.obst = (2, a, b) ∧ k.p.apart (k.front + k.deep) = some (a, b)) ∨ k.obst = (3, 0, 0) := by
  unfold Cd.obst
  cases h1 : k.p.apart (k.elo + k.prism + k.squeeze - k.ehi) with
  | some q => exact .inl ⟨q.1, q.2, rfl, rfl⟩
  | none =>
    cases h2 : k.p.apart (k.front + k.deep) with
    | some q => exact .inr (.inl ⟨q.1, q.2, rfl, rfl⟩)
    | none => exact .inr (.inr rfl)
end Go.Proofs.YtcngaohfemdfjaaGreat
