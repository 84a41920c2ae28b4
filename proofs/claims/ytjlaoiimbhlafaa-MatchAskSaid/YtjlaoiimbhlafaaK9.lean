import Derived.Test.YtjlaoiimbhlafaaK8
import Derived.Test.YtjlaoiimbhlafaaRows
set_option linter.unusedVariables false
set_option linter.unusedSimpArgs false
namespace Go.Proofs.Ytjlaoiimbhlafaa
open Go.RowKit Go.Shelf

open Go.ChangeShapes Go.WideShapes Go.ChangeAt
open MW
theorem Rr.great10 {r : Rr} (h : r.great 10 = false) : r.L.length ≤ 24 ∧ r.R.length ≤ 24 := by
  unfold Rr.great at h
  simp only [Bool.or_eq_false_iff, Bool.and_eq_false_iff, decide_eq_false_iff_not] at h
  exact ⟨by omega, by omega⟩
theorem rows_left {r : Rr} (hok : r.ok = true) (h2 : 2 ≤ r.ways.length) : 0 < r.L.length := by
  refine Nat.pos_of_ne_zero fun h0 => ?_
  have h1 := Rr.cw_full hok r.h
  have h3 := cw_le (fun i j => (r.lkd.all i).testBit j) r.R.length (lf 0 r.L.length) 0 r.h
  have h4 : (r.R.length + 1) ^ (r.L.length - 0) = 1 := by rw [h0]; simp
  rw [h1, lf_len, h4] at h3
  have h5 : r.ways.length ≤ 1 := h3
  omega
/-- MatchAsk is true, whatever the rows and the byte are. -/
theorem lask_any (r : Rr) (b : Int) (w : World) (hb : (Lit.int .u8 b).wf = true) (hcL : r.L.length ≤ r.lc) (hcR : r.R.length ≤ r.rc) (hl : r.L.length ≤ 24 → MksAt r.L r.lp w) (hr : r.R.length ≤ 24 → MksAt r.R r.rp w) :
    Calls Try.prog 10 #[r.val, .int .u8 b] w fun e w' => e = .returned (.bool true) ∧ Below w.heap.size w w' := by
  simp only [Lit.wf, Bool.and_eq_true, decide_eq_true_eq] at hb
  have hb0 : 0 ≤ b := hb.1
  have hb1 : b ≤ 255 := hb.2
  clear hb
  obtain ⟨n, rfl⟩ : ∃ n : Nat, b = n := ⟨b.toNat, by omega⟩
  have hn : n ≤ 255 := by omega
  cases hg : r.great 10 with
  | true => exact lask_great r n w hl hr hg
  | false =>
    obtain ⟨h1, h2⟩ := Rr.great10 hg
    have hL := hl h1
    have hR := hr h2
    cases hok : r.ok with
    | false => exact lask_bad r n w hL hR hg hok
    | true =>
      by_cases hw : r.ways.length ≤ 1
      · exact lask_few r n w hL hR hg hok hw
      · exact lask_many r n w hL hR hn hcL hcR hg hok (by omega) (rows_left hok (by omega))
set_option maxRecDepth 100000 in
theorem cell_cap {W : World} {base : Nat} {p : Option Addr} {n c : Nat} (h : Cell.okWide Try.prog W .any base 22 (.slice p n c)) : n ≤ c := by
  unfold Cell.okWide Cell.ok at h
  simp only [Try.underlying22] at h
  rcases p with - | a
  · rcases n with - | n
    · exact Nat.zero_le _
    · exact absurd h (by simp)
  · exact h.1
set_option maxRecDepth 100000 in
theorem open_caps {W : World} {base : Nat} {r : Rr} (hval : Value.okWide Try.prog W .any base 26 r.val) : r.L.length ≤ r.lc ∧ r.R.length ≤ r.rc := by
  obtain ⟨cs, e, hsz, ts, hts, hn, hrow⟩ : ∃ cs, r.val = .agg cs ∧ cs.size = Try.prog.cellsOf 26 ∧ Row.okWide Try.prog W .any base 26 cs := by
    have := hval
    unfold Value.okWide at this
    rw [Try.underlying26] at this
    exact this
  unfold Rr.val at e
  cases e
  have hts' : ts = [22, 22, 3, 3, 3] := by
    have e : Try.prog.cellTypes Try.prog.depth 26 = some [22, 22, 3, 3, 3] := by kernel_rfl
    rw [e] at hts; exact (Option.some.inj hts).symm
  subst hts'
  obtain ⟨x0, hx0, h0⟩ : ∃ x, ([22, 22, 3, 3, 3] : List TypeId)[0 % 5]? = some x ∧ Cell.okWide Try.prog W .any base x (.slice r.lp r.L.length r.lc) := hrow 0 _ rfl
  obtain ⟨x1, hx1, h1⟩ : ∃ x, ([22, 22, 3, 3, 3] : List TypeId)[1 % 5]? = some x ∧ Cell.okWide Try.prog W .any base x (.slice r.rp r.R.length r.rc) := hrow 1 _ rfl
  simp at hx0 hx1
  subst hx0 hx1
  exact ⟨cell_cap h0, cell_cap h1⟩

end Go.Proofs.Ytjlaoiimbhlafaa
