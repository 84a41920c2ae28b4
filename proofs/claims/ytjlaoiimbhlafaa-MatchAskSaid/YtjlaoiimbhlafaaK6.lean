import Derived.Test.YtjlaoiimbhlafaaK5
set_option linter.unusedVariables false
set_option linter.unusedSimpArgs false
namespace Go.Proofs.Ytjlaoiimbhlafaa
open Go.RowKit Go.Shelf

open MW
theorem Rr.all_le {r : Rr} (hok : r.ok = true) : r.ways.length ≤ 25937424601 := by
  obtain ⟨b1, b2, -⟩ := Rr.ok_parts hok
  have h1 := Rr.cw_full hok r.h
  have h2 := cw_le (fun i j => (r.lkd.all i).testBit j) r.R.length (lf 0 r.L.length) 0 r.h
  rw [h1, lf_len] at h2
  refine Nat.le_trans h2 ?_
  calc (r.R.length + 1) ^ (r.L.length - 0) ≤ 11 ^ (r.L.length - 0) := Nat.pow_le_pow_left (by omega) _
    _ ≤ 11 ^ 10 := Nat.pow_le_pow_right (by omega) (by omega)
    _ = 25937424601 := by decide
theorem cnt_less18 (r : Rr) (hok : r.ok = true) (i : Nat) (hi : i < r.L.length) (pL : Option Addr) (cL : Nat) (pR : Option Addr) (cR : Nat) (W : World) (hmL : MksAt (r.L.take i ++ r.L.drop (i + 1)) pL W) (hmR : MksAt r.R pR W) (h1 : 1 ≤ r.h) :
    Calls Try.prog 18 #[.agg #[.slice pL (i + (r.L.length - (i + 1))) cL, .slice pR r.R.length cR, .int .i64 r.s, .int .i64 r.t, .int .i64 (r.h - 1)]] W fun e w' => e = .returned (.tuple #[.int .i64 (lef r.ways i (-1) : Nat), .int .i64 0]) ∧ Below W.heap.size W w' := by
  obtain ⟨ho, hc⟩ := Rr.cnt_less hok hi pL cL pR cR h1
  have h := count18_yes (r.sub (r.L.take i ++ r.L.drop (i + 1)) pL cL r.R pR cR (r.h - 1)) W hmL hmR ho
  rw [hc] at h
  unfold Rr.val Rr.sub at h
  simp only at h
  rw [show (r.L.take i ++ r.L.drop (i + 1)).length = i + (r.L.length - (i + 1)) by simp; omega] at h
  exact h
theorem cnt_less18z (r : Rr) (hok : r.ok = true) (i : Nat) (hi : i < r.L.length) (pL : Option Addr) (cL : Nat) (pR : Option Addr) (cR : Nat) (W : World) (hmL : MksAt (r.L.take i ++ r.L.drop (i + 1)) pL W) (hmR : MksAt r.R pR W) (h0 : r.h = 0) :
    Calls Try.prog 18 #[.agg #[.slice pL (i + (r.L.length - (i + 1))) cL, .slice pR r.R.length cR, .int .i64 r.s, .int .i64 r.t, .int .i64 (r.h - 1)]] W fun e w' => e = .returned (.tuple #[.int .i64 0, .int .i64 1]) ∧ Below W.heap.size W w' := by
  have ho : (r.sub (r.L.take i ++ r.L.drop (i + 1)) pL cL r.R pR cR (r.h - 1)).ok = false := by
    unfold Rr.ok Rr.sub
    rw [h0]
    simp
  have h := count18_no (r.sub (r.L.take i ++ r.L.drop (i + 1)) pL cL r.R pR cR (r.h - 1)) W hmL hmR ho
  unfold Rr.val Rr.sub at h
  simp only at h
  rw [show (r.L.take i ++ r.L.drop (i + 1)).length = i + (r.L.length - (i + 1)) by simp; omega] at h
  exact h
theorem cnt_before18 (r : Rr) (hok : r.ok = true) (i k : Nat) (hi : i ≤ r.L.length) (hk : k ≤ r.R.length) (pL : Option Addr) (cL : Nat) (pR : Option Addr) (cR : Nat) (W : World) (hmL : MksAt (r.L.take i) pL W) (hmR : MksAt (r.R.take k) pR W) (n : Int) (h1 : 0 ≤ n) (h2 : n ≤ 20) :
    Calls Try.prog 18 #[.agg #[.slice pL i cL, .slice pR k cR, .int .i64 r.s, .int .i64 r.t, .int .i64 n]] W fun e w' => e = .returned (.tuple #[.int .i64 (r.nA i k n : Nat), .int .i64 0]) ∧ Below W.heap.size W w' := by
  obtain ⟨ho, hc⟩ := Rr.cnt_before hok hi hk pL cL pR cR h1 h2
  have h := count18_yes (r.sub (r.L.take i) pL cL (r.R.take k) pR cR n) W hmL hmR ho
  rw [hc] at h
  unfold Rr.val Rr.sub at h
  simp only at h
  rw [show (r.L.take i).length = i by simp; omega, show (r.R.take k).length = k by simp; omega] at h
  exact h
theorem cnt_behind18 (r : Rr) (hok : r.ok = true) (i k : Nat) (pL : Option Addr) (cL : Nat) (pR : Option Addr) (cR : Nat) (W : World) (hmL : MksAt (r.L.drop (i + 1)) pL W) (hmR : MksAt (r.R.drop (k + 1)) pR W) (n : Int) (h1 : 0 ≤ n) (h2 : n ≤ 20) :
    Calls Try.prog 18 #[.agg #[.slice pL (r.L.length - (i + 1)) cL, .slice pR (r.R.length - (k + 1)) cR, .int .i64 r.s, .int .i64 r.t, .int .i64 n]] W fun e w' => e = .returned (.tuple #[.int .i64 (r.nB i k n : Nat), .int .i64 0]) ∧ Below W.heap.size W w' := by
  obtain ⟨ho, hc⟩ := Rr.cnt_behind (i := i) (k := k) hok pL cL pR cR h1 h2
  have h := count18_yes (r.sub (r.L.drop (i + 1)) pL cL (r.R.drop (k + 1)) pR cR n) W hmL hmR ho
  rw [hc] at h
  unfold Rr.val Rr.sub at h
  simp only at h
  rw [List.length_drop, List.length_drop] at h
  exact h
/-- a row from a mark on, in the same cells -/
theorem MksAt.drop {l : List Mrk} {b o : Nat} {W : World} (h : MksAt l (some ⟨b, o, none⟩) W) (n : Nat) : MksAt (l.drop n) (some ⟨b, o + n * 4, none⟩) W := by
  refine ⟨by have := h.1; simp; omega, fun i m hm => ?_⟩
  rw [List.getElem?_drop] at hm
  obtain ⟨b', o', h1, h2, h3, h4, h5, h6⟩ := h.2 (n + i) m hm
  cases h1
  refine ⟨b, o + n * 4, rfl, h2, ?_⟩
  rw [show o + n * 4 + i * 4 = o + (n + i) * 4 by omega]
  exact ⟨h3, h4, h5, h6⟩
theorem MksAt.gone (l : List Mrk) {n : Nat} (h : l.length ≤ n) (p : Option Addr) (W : World) : MksAt (l.drop n) p W := by
  rw [List.drop_eq_nil_of_le h]
  exact ⟨by simp, fun i m hm => by simp at hm⟩

end Go.Proofs.Ytjlaoiimbhlafaa
