import Derived.Test.YtcngaohfemdfjaaGreatY34
import Derived.Test.YtcngaohfemdfjaaGreatY33
set_option linter.unusedVariables false
set_option linter.unusedSimpArgs false
namespace Go.Proofs.YtcngaohfemdfjaaGreat
open Go.RowKit

/-! What MountDepths asks of the numbers. -/
theorem Tm.first_some {t : Tm} : ∀ {l : List (Int × Vw)}, t.first l ≠ (0, 0) → ∃ q ∈ l, t.first l = (q.1, t.why q.2) ∧ t.why q.2 ≠ 0
  | [], h => absurd rfl h
  | r :: l, h => by
    unfold Tm.first at h ⊢
    split at h
    · rename_i h0
      rw [if_pos h0]
      obtain ⟨q, hq, e1, e2⟩ := Tm.first_some h
      exact ⟨q, List.mem_cons_of_mem _ hq, e1, e2⟩
    · rename_i h0
      rw [if_neg h0]
      exact ⟨r, by simp, rfl, h0⟩
theorem sees_shift {k : Cd} (hok : k.p.ok = true) {q : Int × Vw} (hq : q ∈ k.p.sees) : ∃ i : Nat, i < k.p.l.length ∧ q.1 = i ∧ k.p.shift q.1 = (q.2.sa, q.2.sb, 0) := by
  obtain ⟨i, hi, h1, hv⟩ := mem_seesTo hq
  refine ⟨i, hi, h1, ?_⟩
  rw [h1]
  unfold Pr.view at hv
  cases ht : k.p.l[i]? with
  | none => rw [ht] at hv; cases hv
  | some t =>
    rw [ht] at hv
    have hs : k.p.seen[i]? = some (t.see k.p.ti k.p.ne k.p.fa) := by simp [Pr.seen, seenOf, ht]
    rw [hs] at hv
    dsimp only at hv
    split at hv
    · have e := Pr.shift_at hok hs
      rw [e]
      have h2 := Option.some.inj hv
      rw [← h2]
    · cases hv
/-- A thing whose reason is its edges has its shifts in the room; another one has not. -/
theorem Tm.why_room {t : Tm} {x : Vw} (h : t.why x ≠ 0) :
    (t.why x = 5 → t.rlo ≤ imax 0 x.sa ∧ imin 2000 x.sb ≤ t.rhi) ∧ (t.why x ≠ 5 → ¬ (t.rlo ≤ x.sa ∧ x.sb ≤ t.rhi)) := by
  unfold Tm.why at h ⊢
  simp only [Tm.rlo, Tm.rhi, mimax_le, mle_imin]
  have d1 : ∀ a b, t.dist a ≤ b ↔ t.dist b ≤ a := fun a b => by unfold Tm.dist; omega
  have d2 : ∀ a b, a ≤ t.dist b ↔ b ≤ t.dist a := fun a b => by unfold Tm.dist; omega
  have e0 : 0 ≤ imax 0 x.sa ∧ x.sa ≤ imax 0 x.sa := by unfold imax; split <;> omega
  have e1 : imin 2000 x.sb ≤ 2000 ∧ imin 2000 x.sb ≤ x.sb := by unfold imin; split <;> omega
  have a1 := d1 (t.k.elo + t.k.prism) x.sa
  have a2 := d2 x.sb (t.k.ehi - t.k.squeeze)
  split
  · refine ⟨fun h5 => by omega, fun _ h1 => ?_⟩
    omega
  · split
    · refine ⟨fun h5 => by omega, fun _ h1 => ?_⟩
      omega
    · split
      · refine ⟨fun h5 => by omega, fun _ h1 => ?_⟩
        omega
      · split
        · refine ⟨fun h5 => by omega, fun _ h1 => ?_⟩
          omega
        · refine ⟨fun _ => ⟨⟨⟨e0.1, ?_⟩, ?_⟩, ⟨⟨e1.1, ?_⟩, ?_⟩⟩, fun h5 => ?_⟩
          · omega
          · omega
          · omega
          · omega
          · by_cases h6 : 0 < t.over x
            · rw [if_pos h6] at h5
              exact absurd rfl h5
            · simp [*] at h
/-- At a distance all shifts are in the room just if it is among those that are told. -/
theorem Cd.deep_in {k : Cd} {lo hi z : Int} (hne : 0 < k.p.ne) (hp : 0 ≤ k.p.pw.1) (hlo : 0 ≤ lo) (hhi : 0 ≤ hi) (hz1 : k.p.ne ≤ z) (hz2 : z ≤ k.p.fa) :
    (lo ≤ k.p.pw.1 / z ∧ k.p.pw.2 / z ≤ hi) ↔ ((k.deepS lo hi).2.2 = 0 ∧ (k.deepS lo hi).1 ≤ z ∧ z ≤ (k.deepS lo hi).2.1) := by
  have a1 : k.p.pw.2 / z ≤ hi ↔ k.p.pw.2 / (hi + 1) + 1 ≤ z := div_le_iff (by omega) hhi
  have a2 : lo ≤ k.p.pw.1 / z ↔ ¬ (0 < lo ∧ k.p.pw.1 / lo + 1 ≤ z) := by
    have := div_lt_iff (a := k.p.pw.1) (z := z) (l := lo) (by omega) hp
    omega
  rw [a1, a2]
  unfold Cd.deepS
  generalize k.p.pw.2 / (hi + 1) = q
  generalize k.p.pw.1 / lo = r
  generalize hU : (if 0 < lo then imin k.p.fa r else k.p.fa) = U
  generalize hL : imax k.p.ne (q + 1) = L
  have b1 : L ≤ z ↔ q + 1 ≤ z := by rw [← hL, mimax_le]; omega
  have b2 : z ≤ U ↔ ¬ (0 < lo ∧ r + 1 ≤ z) := by
    rw [← hU]
    split
    · rw [mle_imin]; omega
    · omega
  split
  · simp
    omega
  · simp
    rw [b1, b2]
    omega
theorem Cd.deep_ends {k : Cd} {lo hi : Int} (h : k.p.ne ≤ k.p.fa) : ((k.deepS lo hi).2.2 = 0 ∧ k.p.ne ≤ (k.deepS lo hi).1 ∧ (k.deepS lo hi).1 ≤ (k.deepS lo hi).2.1 ∧ (k.deepS lo hi).2.1 ≤ k.p.fa) ∨ k.deepS lo hi = (0, 0, 4) := by
  unfold Cd.deepS
  generalize k.p.pw.2 / (hi + 1) = q
  generalize k.p.pw.1 / lo = r
  have hU : (if 0 < lo then imin k.p.fa r else k.p.fa) ≤ k.p.fa := by
    split
    · unfold imin; split <;> omega
    · omega
  have hL : k.p.ne ≤ imax k.p.ne (q + 1) := by unfold imax; split <;> omega
  generalize (if 0 < lo then imin k.p.fa r else k.p.fa) = U at *
  generalize imax k.p.ne (q + 1) = L at *
  split
  · exact .inr rfl
  · rename_i hc
    exact .inl ⟨rfl, hL, by dsimp only; omega, hU⟩
end Go.Proofs.YtcngaohfemdfjaaGreat
