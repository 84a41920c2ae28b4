import Derived.Test.YtcngaohfemdfjaaGreatY34
import Derived.Test.YtcngaohfemdfjaaGreatY33
import Derived.Test.YtcngaohfemdfjaaGreatX44
import Derived.Test.YtcngaohfemdfjaaGreatXg
import Derived.Test.YtcngaohfemdfjaaGreatX45
import Derived.RegionTactic
set_option linter.unusedVariables false
set_option linter.unusedSimpArgs false
namespace Go.Proofs.YtcngaohfemdfjaaGreat
open Go.RowKit
/-- What is so at each round. -/
structure LeastIn (k : Cd) (w : World) (bt A B b o len cap : Nat) (t : Cu) (j : Nat) (W : World) : Prop where
  draw : DrawOk A B b o len cap (3 * j) W
  bel : Below w.heap.size w W
  card : Box W w.heap.size k.cs 28
  trim : Box W bt [.int .i64 t.a, .int .i64 t.b, .int .i64 t.c, .int .i64 t.d] 30
  nc : w.heap.size < A
  nt : bt < A
theorem LeastIn.grow {k : Cd} {w : World} {bt A B b o len cap : Nat} {t : Cu} {j : Nat} {W W' : World} (h : LeastIn k w bt A B b o len cap t j W) (hg : Gr W W') : LeastIn k w bt A B b o len cap t j W' :=
  ⟨h.draw.grow (Dr.of hg), bgr h.bel h.bel.size hg, h.card.grow hg, h.trim.grow hg, h.nc, h.nt⟩
theorem LeastIn.drew {k : Cd} {w : World} {bt A B b o len cap : Nat} {t : Cu} {j : Nat} {W W' : World} (h : LeastIn k w bt A B b o len cap t j W) (hd : Dr A 3 W W') : LeastIn k w bt A B b o len cap t (j + 1) W' :=
  ⟨(h.draw.grow hd).le (by omega), hd.below h.bel h.bel.size (by have := h.nc; omega), hd.box h.card (by have := h.nc; omega), hd.box h.trim (by have := h.nt; omega), h.nc, h.nt⟩
theorem isT_le {u : Cu} {m : Int} (h : u.isT m = true) : (0 ≤ u.a ∧ u.a ≤ m) ∧ (0 ≤ u.b ∧ u.b ≤ m) ∧ (0 ≤ u.c ∧ u.c ≤ m) ∧ (0 ≤ u.d ∧ u.d ≤ m) ∧ u.a + u.b = u.c + u.d := by
  unfold Cu.isT at h
  simp only [Bool.and_eq_true, decide_eq_true_eq] at h
  omega
theorem bef_ways {x t : Cu} (h : ¬ x.bef t) : decide (x.a + x.b + x.c + x.d < t.a + t.b + t.c + t.d) = false ∧ ((x.a + x.b + x.c + x.d == t.a + t.b + t.c + t.d) = false ∨ ((x.a + x.b + x.c + x.d == t.a + t.b + t.c + t.d) = true ∧ decide (x.a < t.a) = false ∧ ((x.a == t.a) = false ∨ ((x.a == t.a) = true ∧ decide (x.b < t.b) = false ∧ ((x.b == t.b) = false ∨ ((x.b == t.b) = true ∧ decide (x.c < t.c) = false)))))) := by
  unfold Cu.bef Cu.sum at h
  refine ⟨by simp; omega, ?_⟩
  by_cases h1 : x.a + x.b + x.c + x.d = t.a + t.b + t.c + t.d
  · refine .inr ⟨by simpa using h1, by simp; omega, ?_⟩
    by_cases h2 : x.a = t.a
    · refine .inr ⟨by simpa using h2, by simp; omega, ?_⟩
      by_cases h3 : x.b = t.b
      · exact .inr ⟨by simpa using h3, by simp; omega⟩
      · exact .inl (by simpa using h3)
    · exact .inl (by simpa using h2)
  · exact .inl (by simpa using h1)
theorem ByIn.grow {b o len : Nat} {w W : World} (h : ByIn b o len w) (hg : Gr w W) : ByIn b o len W := by
  obtain ⟨r1, r2, r3, r4⟩ := h
  exact ⟨r1, r2, Nat.lt_of_lt_of_le r3 hg.size, fun i hi => by
    obtain ⟨x, hx, hx'⟩ := r4 i hi
    exact ⟨x, (hg.cell (p := ⟨b, o + i, none⟩) r3).trans hx, hx'⟩⟩
end Go.Proofs.YtcngaohfemdfjaaGreat
