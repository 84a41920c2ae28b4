import Derived.Test.YtjlaoiimbhlafaaRows
import Derived.WalkKit
import Derived.WalkSpells
import Derived.WalkLawsBesides
import Derived.Lib.Hide
import Derived.Test.YtjlaoiimbhlafaaP0
import Derived.Deep.DeepCutAuto
import Derived.Defers
import Derived.Recover
import Derived.Laws.Pointers
set_option linter.unusedVariables false
set_option linter.unusedSimpArgs false
namespace Go.Proofs.Ytjlaoiimbhlafaa.Pq
open Go.RowKit

set_option maxHeartbeats 400000 in
theorem span_any (lo hi : Int) (w : World) :
    Calls Try.prog 128 #[.int .i64 lo, .int .i64 hi] w fun e w' => e = .returned (.agg #[.int .i64 lo, .int .i64 hi]) ∧ Below w.heap.size w w' := by
  go_enter Try.func128, Try.ntmps128
  go_wp2
  exact bodyPost_ret (v := .agg #[.int .i64 lo, .int .i64 hi]) (by simp [results, Try.results128, go_sem]) rfl ⟨rfl, by
    exact ((Below.refl _ _).alloc (Nat.le_refl _) _)⟩

set_option maxHeartbeats 400000 in
theorem empty_any (lo hi : Int) (w : World) :
    Calls Try.prog 116 #[.agg #[.int .i64 lo, .int .i64 hi]] w fun e w' => e = .returned (.bool (decide (hi < lo))) ∧ Below w.heap.size w w' := by
  go_enter Try.func116, Try.ntmps116
  go_wp2
  go_ret
  exact ⟨rfl, (Below.refl _ _).alloc (Nat.le_refl _) _⟩

set_option maxHeartbeats 400000 in
theorem inside_any (n lo hi : Int) (w : World) :
    Calls Try.prog 138 #[.int .i64 n, .agg #[.int .i64 lo, .int .i64 hi]] w fun e w' => e = .returned (.bool (decide (lo ≤ n) && decide (n ≤ hi))) ∧ Below w.heap.size w w' := by
  by_cases h : lo ≤ n
  · have h' : decide (lo ≤ n) = true := by simpa using h
    go_enter Try.func138, Try.ntmps138
    go_wp2
    go_ret
    exact ⟨by simp [h], (Below.refl _ _).alloc (Nat.le_refl _) _⟩
  · have h' : decide (lo ≤ n) = false := by simpa using h
    go_enter Try.func138, Try.ntmps138
    go_wp2
    go_ret
    exact ⟨by simp, (Below.refl _ _).alloc (Nat.le_refl _) _⟩

set_option maxHeartbeats 400000 in
theorem nothing_any (w : World) :
    Calls Try.prog 140 #[] w fun e w' => e = .returned (.agg #[.int .i64 1, .int .i64 0]) ∧ Below w.heap.size w w' := by
  go_enter Try.func140, Try.ntmps140
  go_wp2_with (go_at_call 128; refine (span_any _ _ _).mono ?_; rintro e w1 ⟨rfl, hb⟩; obtain ⟨hc, hf, hz⟩ := bcell hb)
  exact bodyPost_ret (v := .agg #[.int .i64 1, .int .i64 0]) (by simp [results, Try.results140, go_sem, hc]) rfl ⟨rfl, by
    exact ((((Below.refl _ _).alloc (Nat.le_refl _) _).trans (hb.mono (by simp))).setCell (by simp) _).setCell (by simp) _⟩
end Go.Proofs.Ytjlaoiimbhlafaa.Pq


namespace Go.Proofs.Ytjlaoiimbhlafaa.Pq
open Go.RowKit

/-- A slice value reads as this list of spans. -/
def SpansAt (l : List (Int × Int)) (v : Value) (w : World) : Prop :=
  ∃ b o cap, v = .slice (some ⟨b, o, none⟩) l.length cap ∧ b < w.heap.size ∧ l.length ≤ 1000 ∧
    ∀ i, i < l.length → w.cell? ⟨b, o + i * 2, none⟩ = some (.int .i64 (l.getD i (0,0)).1) ∧ w.cell? ⟨b, o + i * 2 + 1, none⟩ = some (.int .i64 (l.getD i (0,0)).2)

theorem SpansAt.lasts (l : List (Int × Int)) : Lasts (SpansAt l) := fun v W W' ⟨b, o, cap, h1, h2, h3, h4⟩ hG =>
  ⟨b, o, cap, h1, (bcell hG).2.2 _ h2, h3, fun i hi => by rw [(bcell hG).1 _ _ h2, (bcell hG).1 _ _ h2]; exact h4 i hi⟩

theorem SpansAt.one (x y : Int) (W : World) (T : TypeId) : SpansAt [(x, y)] (.slice (some ⟨W.heap.size, 0, none⟩) 1 1) (W.alloc (.cells #[.int .i64 x, .int .i64 y] T)) :=
  ⟨W.heap.size, 0, 1, rfl, by simp, by simp, fun i hi => by
    have : i = 0 := by simp at hi; omega
    subst this
    exact ⟨by simp [go_sem], by simp [go_sem]⟩⟩

def ovl (s o : Int × Int) : Int × Int := (if s.1 < o.1 then o.1 else s.1, if o.2 < s.2 then o.2 else s.2)

theorem foldl_snoc (l : List (Int × Int)) (k : Nat) (h : k < l.length) (a : Int × Int) : (l.take (k + 1)).foldl ovl a = ovl ((l.take k).foldl ovl a) (l.getD k (0, 0)) := by
  rw [List.take_succ_eq_append_getElem h, List.foldl_append]
  simp [h]

set_option maxHeartbeats 400000 in
theorem overlap_any (lo hi : Int) (v : Value) (l : List (Int × Int)) (w : World) (h : SpansAt l v w) :
    Calls Try.prog 139 #[.agg #[.int .i64 lo, .int .i64 hi], v] w fun e w' => e = .returned (.agg #[.int .i64 (l.foldl ovl (lo, hi)).1, .int .i64 (l.foldl ovl (lo, hi)).2]) ∧ Below w.heap.size w w' := by
  obtain ⟨b, o, cap, rfl, hb, hlen, hc⟩ := h
  go_enter Try.func139, Try.ntmps139
  go_wp2
  have hal := @cal
  have hfl := @fal
  go_loopw [9] (fun i wr => ∃ k : Nat, k ≤ l.length ∧ i = .int .i64 k ∧ Below w.heap.size w wr ∧ ∃ T T', Box wr w.heap.size [.int .i64 ((l.take k).foldl ovl (lo, hi)).1, .int .i64 ((l.take k).foldl ovl (lo, hi)).2] T ∧ Box wr (w.heap.size + 1) [.int .i64 0, .int .i64 0] T') (fun i _ => l.length - (intOf i).toNat)
  case atStart =>
    exact ⟨0, Nat.zero_le _, rfl, ((Below.refl _ _).alloc (Nat.le_refl _) _).alloc (by simp) _, 24, 24, (Box.fresh w _ _).grow (Gr.alloc _ _), by
      have := Box.fresh (w.alloc (Obj.cells #[Value.int IntKind.i64 lo, Value.int IntKind.i64 hi] 24)) [.int .i64 0, .int .i64 0] 24
      simpa using this⟩
  case round =>
    obtain ⟨k, hk, rfl, hB, T, T', b1, b2⟩ := hrel
    have ⟨c10, c11, f10, f11, l1⟩ := b1.two
    have ⟨c20, c21, f20, f21, l2⟩ := b2.two
    by_cases hlt : k < l.length
    · have hbb : b < wr.heap.size := Nat.lt_of_lt_of_le hb hB.size
      have ⟨hx, hy⟩ := hc k hlt
      rw [← hB.cell (p := ⟨b, _, none⟩) hb] at hx hy
      have hs := foldl_snoc l k hlt (lo, hi)
      generalize hp : l.getD k (0, 0) = p at *
      generalize hq : (l.take k).foldl ovl (lo, hi) = q at *
      have HS := Lib.hid hs
      have HP := Lib.hid hp
      have HQ := Lib.hid hq
      clear hs hp hq hc
      have HB1 := Lib.hid b1
      have HB2 := Lib.hid b2
      clear b1 b2
      go_wp2_with (go_at_call 128; refine (span_any _ _ _).mono ?_; rintro e w1 ⟨rfl, hb1⟩; obtain ⟨hc1, hf1, hz1⟩ := bcell hb1)
      have b1 := (HB1.out.grow (Gr.alloc wr (Obj.cells #[Value.int IntKind.i64 p.fst, Value.int IntKind.i64 p.snd] 24))).grow hb1
      have b2 := (HB2.out.grow (Gr.alloc wr (Obj.cells #[Value.int IntKind.i64 p.fst, Value.int IntKind.i64 p.snd] 24))).grow hb1
      refine ⟨⟨k + 1, by omega, by go_num, ((bgr (bgr hB hB.size (Gr.alloc _ _)) (by simp; omega) hb1).setCell (by simp) _).setCell (by simp) _, T, T', ?_, ?_⟩, by simp [intOf]; omega⟩
      · rw [HS.out]
        exact (b1.put 0 _).put 1 _
      · exact (b2.other (by omega) _ _).other (by omega) _ _
    · have : k = l.length := by omega
      subst this
      rw [List.take_length] at *
      go_wp2
      exact bodyPost_ret (v := .agg #[.int .i64 (l.foldl ovl (lo, hi)).1, .int .i64 (l.foldl ovl (lo, hi)).2]) (by simp [results, Try.results139, go_sem, *]) rfl ⟨rfl, (hB.setCell (by simp) _).setCell (by simp) _⟩
end Go.Proofs.Ytjlaoiimbhlafaa.Pq

namespace Go.Proofs.Ytjlaoiimbhlafaa.Pq
open Go.RowKit

set_option maxHeartbeats 400000 in
theorem steady_any (wit : Value) (lo hi : Int) (sl : Bool) (w : World) :
    Calls Try.prog 141 #[.agg #[wit, .int .i64 lo, .int .i64 hi, .bool sl]] w fun e w' => e = .returned (.agg #[.int .i64 (ovl (lo, hi) (0, 2000)).1, .int .i64 (ovl (lo, hi) (0, 2000)).2]) ∧ Below w.heap.size w w' := by
  go_enter Try.func141, Try.ntmps141
  go_wp2
  refine region2 5 ?_ ?_ ?_
  · kernel_rfl
  · kernel_rfl
  simp only [List.take_succ_cons, List.take_zero, List.drop_succ_cons, List.drop_zero]
  apply chain_eq (D := [(1, none)]) rfl (by kernel_rfl)
  · intro ρ W ⟨p1, p2, p3⟩ hG hF K hK; (try simp [FactsD] at hF); have ⟨hc, hf, hz⟩ := bcell hG; go_simp; exact hK _ (gives_val)
  apply chain_eq (D := [(3, some 0)]) rfl (by kernel_rfl)
  · intro ρ W ⟨p1, p2, p3⟩ hG hF K hK; (try simp [FactsD] at hF); have ⟨hc, hf, hz⟩ := bcell hG; go_simp; exact hK _ (gives_val)
  apply chain_eq (D := []) rfl (by kernel_rfl)
  · intro ρ W ⟨p1, p2, p3⟩ hG hF K hK; (try simp [FactsD] at hF); have ⟨hc, hf, hz⟩ := bcell hG; go_simp; exact hK _ (gives_call (span_any _ _ _))
  refine chain_any (V := SpansAt [(0, 2000)]) (D := [(5, some 0)]) rfl (by kernel_rfl) (SpansAt.lasts _) ?_ ?_
  · intro ρ W ⟨p1, p2, p3⟩ hG hF K hK; (try simp [FactsD] at hF); have ⟨hc, hf, hz⟩ := bcell hG; go_simp; exact hK _ (⟨SpansAt.one _ _ _ _, Gr.alloc _ _⟩)
  apply chain_eq (D := [(4, some 2), (6, some 0)]) rfl (by kernel_rfl)
  · intro ρ W ⟨p1, p2, p3⟩ hG hF K hK; (try simp [FactsD] at hF); have ⟨hc, hf, hz⟩ := bcell hG; obtain ⟨hF1, hF2⟩ := hF; go_simp; exact hK _ (gives_call (overlap_any _ _ _ _ _ hF2))
  refine chain_done ?_
  intro vs W hG hV
  obtain ⟨e4, -⟩ := hV
  simp only [Nat.reduceSub] at e4
  simp only [lay, Act.put, List.getElem?_toArray, List.getElem?_cons_succ, List.getElem?_cons_zero, Option.bind_some, List.setIfInBounds_toArray, List.set_cons_succ, List.set_cons_zero]
  generalize vs 0 = v0
  generalize vs 1 = v1
  generalize vs 2 = v2
  generalize vs 3 = v3
  generalize vs 4 = v4 at *
  subst e4
  obtain ⟨hc, hf, hz⟩ := bcell hG
  go_wp2
  exact bodyPost_ret (v := .agg #[.int .i64 (ovl (lo, hi) (0, 2000)).1, .int .i64 (ovl (lo, hi) (0, 2000)).2]) (by simp [results, Try.results141, go_sem, hc]) rfl ⟨rfl, (((bgr (((Below.refl _ _).alloc (by first | (simp; done) | (simp; omega) | omega) _).alloc (by first | (simp; done) | (simp; omega) | omega) _) (by first | (simp; done) | (simp; omega) | omega) hG).setCell (by first | (simp; done) | (simp; omega) | omega) _).setCell (by first | (simp; done) | (simp; omega) | omega) _)⟩
def imin (a b : Int) : Int := if b < a then b else a
def imax (a b : Int) : Int := if a < b then b else a
set_option maxHeartbeats 400000 in
theorem isSlanted_any (wit : Value) (lo hi plo phi : Int) (sl : Bool) (w : World) :
    Calls Try.prog 133 #[.agg #[wit, .int .i64 lo, .int .i64 hi, .bool sl], .agg #[.int .i64 plo, .int .i64 phi]] w fun e w' => e = .returned (.bool sl) ∧ Below w.heap.size w w' := by
  go_enter Try.func133, Try.ntmps133
  go_wp2
  go_ret
  exact ⟨rfl, ((Below.refl _ _).alloc (Nat.le_refl _) _).alloc (by simp) _⟩
set_option maxHeartbeats 400000 in
theorem isBehind_any (wit : Value) (lo hi plo phi : Int) (sl : Bool) (w : World) :
    Calls Try.prog 134 #[.agg #[wit, .int .i64 lo, .int .i64 hi, .bool sl], .agg #[.int .i64 plo, .int .i64 phi]] w fun e w' => e = .returned (.bool (decide (hi < 0))) ∧ Below w.heap.size w w' := by
  go_enter Try.func134, Try.ntmps134
  go_wp2
  go_ret
  exact ⟨rfl, ((Below.refl _ _).alloc (Nat.le_refl _) _).alloc (by simp) _⟩
theorem mulb {a b : Int} (h0 : -20000 ≤ a) (h1 : a ≤ 20000) (h2 : 0 ≤ b) (h3 : b ≤ 1073741824) : -21474836480000 ≤ a * b ∧ a * b ≤ 21474836480000 := by
  constructor
  · have : -20000 * b ≤ a * b := Int.mul_le_mul_of_nonneg_right h0 h2
    omega
  · have : a * b ≤ 20000 * b := Int.mul_le_mul_of_nonneg_right h1 h2
    omega
set_option maxHeartbeats 400000 in
theorem markPowers_any (m lo hi : Int) (w : World) (h0 : -10000 ≤ lo) (h1 : lo ≤ 10000) (h2 : -10000 ≤ hi) (h3 : hi ≤ 10000) (h4 : 0 ≤ m) (h5 : m ≤ 1073741824) :
    Calls Try.prog 162 #[.int .i64 m, .agg #[.int .i64 lo, .int .i64 hi]] w fun e w' => e = .returned (.agg #[.int .i64 (lo * m), .int .i64 ((hi + 1) * m - 1)]) ∧ Below w.heap.size w w' := by
  obtain ⟨m0, m1⟩ := mulb (a := lo) (b := m) (by omega) (by omega) h4 h5
  obtain ⟨m2, m3⟩ := mulb (a := hi + 1) (b := m) (by omega) (by omega) h4 h5
  go_enter Try.func162, Try.ntmps162
  go_wp2_with (go_at_call 128; refine (span_any _ _ _).mono ?_; rintro e w1 ⟨rfl, hb1⟩; obtain ⟨hc1, hf1, hz1⟩ := bcell hb1)
  exact bodyPost_ret (v := .agg #[.int .i64 (lo * m), .int .i64 ((hi + 1) * m - 1)]) (by simp [results, Try.results162, go_sem, hc1]) rfl ⟨rfl, (((bgr (((Below.refl _ _).alloc (by first | (simp; done) | (simp; omega) | omega) _).alloc (by first | (simp; done) | (simp; omega) | omega) _) (by first | (simp; done) | (simp; omega) | omega) hb1).setCell (by first | (simp; done) | (simp; omega) | omega) _).setCell (by first | (simp; done) | (simp; omega) | omega) _)⟩
set_option maxHeartbeats 400000 in
theorem farPowers_any (near far lo hi : Int) (w : World) (h0 : -10000 ≤ lo) (h1 : lo ≤ 10000) (h2 : -10000 ≤ hi) (h3 : hi ≤ 10000) (h4 : 0 ≤ near) (h5 : near ≤ 1073741824) (h6 : 0 ≤ far) (h7 : far ≤ 1073741824) :
    Calls Try.prog 160 #[.agg #[.int .i64 near, .int .i64 far], .agg #[.int .i64 lo, .int .i64 hi]] w fun e w' => e = .returned (.agg #[.int .i64 (lo * near), .int .i64 ((hi + 1) * far - 1)]) ∧ Below w.heap.size w w' := by
  obtain ⟨m0, m1⟩ := mulb (a := lo) (b := near) (by omega) (by omega) h4 h5
  obtain ⟨m2, m3⟩ := mulb (a := hi + 1) (b := far) (by omega) (by omega) h6 h7
  go_enter Try.func160, Try.ntmps160
  go_wp2_with (go_at_call 128; refine (span_any _ _ _).mono ?_; rintro e w1 ⟨rfl, hb1⟩; obtain ⟨hc1, hf1, hz1⟩ := bcell hb1)
  exact bodyPost_ret (v := .agg #[.int .i64 (lo * near), .int .i64 ((hi + 1) * far - 1)]) (by simp [results, Try.results160, go_sem, hc1]) rfl ⟨rfl, (((bgr ((((Below.refl _ _).alloc (by first | (simp; done) | (simp; omega) | omega) _).alloc (by first | (simp; done) | (simp; omega) | omega) _).alloc (by first | (simp; done) | (simp; omega) | omega) _) (by first | (simp; done) | (simp; omega) | omega) hb1).setCell (by first | (simp; done) | (simp; omega) | omega) _).setCell (by first | (simp; done) | (simp; omega) | omega) _)⟩
end Go.Proofs.Ytjlaoiimbhlafaa.Pq

namespace Go.Proofs.Ytjlaoiimbhlafaa.Pq
open Go.RowKit


theorem wraps_i64 (n : Int) (h0 : 0 ≤ n) (h1 : n < 2 ^ 63) : IntKind.i64.wrap n = n := by rw [IntKind.wrap_i64]; omega
theorem u64n (a : Nat) (h : a < 18446744073709551616) : IntKind.u64.wrap (a : Int) = (a : Int) := by rw [IntKind.wrap_u64]; omega

def p1 (m : Int) : Int := IntKind.u64.wrap (bits BinOp.and IntKind.u64 (m / 2) 6148914691236517205 + bits BinOp.and IntKind.u64 m 6148914691236517205)
def p2 (m : Int) : Int := IntKind.u64.wrap (bits BinOp.and IntKind.u64 (m / 4) 3689348814741910323 + bits BinOp.and IntKind.u64 m 3689348814741910323)
def p3 (m : Int) : Int := bits BinOp.and IntKind.u64 (IntKind.u64.wrap (m / 16 + m)) 1085102592571150095
def p4 (m : Int) : Int := IntKind.u64.wrap (m + m / 256)
def p5 (m : Int) : Int := IntKind.u64.wrap (m + m / 65536)
def p6 (m : Int) : Int := IntKind.u64.wrap (m + m / 4294967296)
def pop (m : Int) : Int := bits BinOp.and IntKind.i64 (wrap64 (p6 (p5 (p4 (p3 (p2 (p1 m))))))) 127
def q1 (m : Nat) : Nat := (m / 2 &&& 6148914691236517205) + (m &&& 6148914691236517205)
def q2 (m : Nat) : Nat := (m / 4 &&& 3689348814741910323) + (m &&& 3689348814741910323)
def q3 (m : Nat) : Nat := (m / 16 + m) &&& 1085102592571150095
def qop (m : Nat) : Nat :=
  let c := q3 (q2 (q1 m))
  let d := c + c / 256
  let e := d + d / 65536
  (e + e / 4294967296) % 128
/-- How many things are in a set. -/
def cnt (m : Nat) : Nat := ((List.range 12).filter fun i => m.testBit i).length
theorem qop_all : (List.range 4096).all (fun m => decide (qop m = cnt m) && decide (q1 m < 65536) && decide (q2 (q1 m) < 65536)) = true := by decide +kernel

theorem p1n (m : Nat) (h : m < 65536) : p1 (m : Int) = (q1 m : Int) := by
  unfold p1 q1
  have a1 : m / 2 &&& 6148914691236517205 ≤ m / 2 := Nat.and_le_left
  have a2 : m &&& 6148914691236517205 ≤ m := Nat.and_le_left
  rw [show (m : Int) / 2 = ((m / 2 : Nat) : Int) from by omega, show (6148914691236517205 : Int) = ((6148914691236517205 : Nat) : Int) from rfl, bits_and_u64_nat _ _ (by omega) (by omega), bits_and_u64_nat _ _ (by omega) (by omega), ← Int.natCast_add, u64n _ (by omega)]
theorem p2n (m : Nat) (h : m < 65536) : p2 (m : Int) = (q2 m : Int) := by
  unfold p2 q2
  have a1 : m / 4 &&& 3689348814741910323 ≤ m / 4 := Nat.and_le_left
  have a2 : m &&& 3689348814741910323 ≤ m := Nat.and_le_left
  rw [show (m : Int) / 4 = ((m / 4 : Nat) : Int) from by omega, show (3689348814741910323 : Int) = ((3689348814741910323 : Nat) : Int) from rfl, bits_and_u64_nat _ _ (by omega) (by omega), bits_and_u64_nat _ _ (by omega) (by omega), ← Int.natCast_add, u64n _ (by omega)]
theorem p3n (m : Nat) (h : m < 65536) : p3 (m : Int) = (q3 m : Int) ∧ q3 m < 131072 := by
  unfold p3 q3
  have a1 : (m / 16 + m) &&& 1085102592571150095 ≤ m / 16 + m := Nat.and_le_left
  refine ⟨?_, by omega⟩
  rw [show (m : Int) / 16 + (m : Int) = ((m / 16 + m : Nat) : Int) from by omega, u64n _ (by omega), show (1085102592571150095 : Int) = ((1085102592571150095 : Nat) : Int) from rfl, bits_and_u64_nat _ _ (by omega) (by omega)]
theorem pop_cnt (m : Nat) (h : m < 4096) : pop (m : Int) = (cnt m : Int) := by
  have h1 := List.all_eq_true.1 qop_all m (List.mem_range.2 h)
  simp only [Bool.and_eq_true, decide_eq_true_eq] at h1
  obtain ⟨⟨h1, h2⟩, h3⟩ := h1
  rw [← h1]
  unfold pop qop
  rw [p1n m (by omega), p2n _ h2]
  obtain ⟨h4, h5⟩ := p3n (q2 (q1 m)) h3
  rw [h4]
  generalize q3 (q2 (q1 m)) = c at *
  rw [i64_and127]
  have e4 : p4 (c : Int) = ((c + c / 256 : Nat) : Int) := by unfold p4; rw [show (c : Int) + (c : Int) / 256 = ((c + c / 256 : Nat) : Int) from by omega, u64n _ (by omega)]
  rw [e4]
  have b4 : c + c / 256 < 200000 := by omega
  simp only
  generalize c + c / 256 = d at *
  have e5 : p5 (d : Int) = ((d + d / 65536 : Nat) : Int) := by unfold p5; rw [show (d : Int) + (d : Int) / 65536 = ((d + d / 65536 : Nat) : Int) from by omega, u64n _ (by omega)]
  rw [e5]
  have b5 : d + d / 65536 < 400000 := by omega
  generalize d + d / 65536 = e at *
  have e6 : p6 (e : Int) = ((e + e / 4294967296 : Nat) : Int) := by unfold p6; rw [show (e : Int) + (e : Int) / 4294967296 = ((e + e / 4294967296 : Nat) : Int) from by omega, u64n _ (by omega)]
  rw [e6, IntWalk.wrap64_in _ ⟨by omega, by omega⟩]
  omega
theorem pow_lt (k : Nat) (h : k < 12) : 2 ^ k < 4096 := by
  have := Nat.pow_lt_pow_right (a := 2) (by omega) h
  simpa using this
theorem shl_in (k : Nat) (h : k < 12) : wrap64 (2 ^ k) = ((2 ^ k : Nat) : Int) := by
  have := pow_lt k h
  rw [show ((2 : Int) ^ k) = ((2 ^ k : Nat) : Int) from by simp]
  generalize 2 ^ k = p at *
  rw [IntWalk.wrap64_in _ ⟨by omega, by omega⟩]
theorem or_set (m k : Nat) (h : m < 4096) (hk : k < 12) : bits BinOp.or IntKind.i64 (m : Int) (wrap64 (2 ^ k)) = ((m ||| 2 ^ k : Nat) : Int) := by
  have := pow_lt k hk
  rw [shl_in k hk]
  exact (bits_nat .i64 63 (by decide) wraps_i64 m (2 ^ k) (by omega) (by omega)).2
theorem and_set (m k : Nat) (h : m < 4096) (hk : k < 12) : (bits BinOp.and IntKind.i64 (m : Int) (wrap64 (2 ^ k)) != 0) = m.testBit k := by
  have := pow_lt k hk
  rw [shl_in k hk, (bits_nat .i64 63 (by decide) wraps_i64 m (2 ^ k) (by omega) (by omega)).1]
  cases hb : m.testBit k with
  | true =>
    rw [bne_iff_ne]
    intro h0
    have h0' : m &&& 2 ^ k = 0 := by omega
    have h2 : (m &&& 2 ^ k).testBit k = true := by simp [Nat.testBit_and, hb]
    rw [h0'] at h2
    simp at h2
  | false =>
    have h0 : m &&& 2 ^ k = 0 := by
      apply Nat.eq_of_testBit_eq
      intro i
      rw [Nat.testBit_and, Nat.testBit_two_pow, Nat.zero_testBit]
      by_cases e : k = i
      · subst e; simp [hb]
      · simp [e]
    rw [h0]
    rfl
set_option maxHeartbeats 400000 in
theorem with_any (m k : Nat) (w : World) (h0 : k < 12) (h1 : m < 4096) :
    Calls Try.prog 127 #[.int .i64 m, .int .i64 k] w fun e w' => e = .returned (.int .i64 ((m ||| 2 ^ k : Nat) : Int)) ∧ Below w.heap.size w w' := by
  have e1 := Lib.hid (or_set m k h1 h0)
  go_enter Try.func127, Try.ntmps127
  go_wp2
  go_ret
  exact ⟨congrArg (fun x => Ending.returned (.int .i64 x)) (by first | exact e1.out | simpa using e1.out), Below.refl _ _⟩
set_option maxHeartbeats 400000 in
theorem has_any (m k : Nat) (w : World) (h0 : k < 12) (h1 : m < 4096) :
    Calls Try.prog 131 #[.int .i64 m, .int .i64 k] w fun e w' => e = .returned (.bool (m.testBit k)) ∧ Below w.heap.size w w' := by
  have e1 := Lib.hid (and_set m k h1 h0)
  go_enter Try.func131, Try.ntmps131
  go_wp2
  go_ret
  exact ⟨congrArg (fun x => Ending.returned (.bool x)) (by first | exact e1.out | simpa using e1.out), Below.refl _ _⟩
end Go.Proofs.Ytjlaoiimbhlafaa.Pq

namespace Go.Proofs.Ytjlaoiimbhlafaa.Pq
open Go.RowKit

set_option maxHeartbeats 400000 in
theorem require_ok (k : Int) (w : World) :
    Calls Try.prog 113 #[.bool true, .int .i64 k] w fun e w' => e = .returned (.tuple #[]) ∧ Below w.heap.size w w' := by
  go_enter Try.func113, Try.ntmps113
  go_wp2
  go_end0
  exact ⟨rfl, Below.refl _ _⟩
set_option maxHeartbeats 400000 in
theorem require_no (k : Int) (w : World) :
    Calls Try.prog 113 #[.bool false, .int .i64 k] w fun e w' => e = .panicked [{ v := .iface 29 (.int .i64 k), recovered := false }] ∧ Below w.heap.size w w' := by
  go_enter Try.func113, Try.ntmps113
  go_wp2
  exact ⟨rfl, rfl, Below.refl _ _⟩
set_option maxHeartbeats 400000 in
theorem errorOf_any (k : Int) (w : World) :
    Calls Try.prog 111 #[.iface 29 (.int .i64 k)] w fun e w' => e = .returned (.int .i64 k) ∧ Below w.heap.size w w' := by
  have hta : ∀ w, (Instr.typeAssert (.iface 29 (.int .i64 k)) 20 29 true).run Try.prog w = .ok (.tuple #[.int .i64 k, .bool true]) w := fun w => by kernel_rfl
  go_enter Try.func111, Try.ntmps111
  go_wp2
  go_ret
  exact ⟨rfl, Below.refl _ _⟩

def okSp (lo hi : Int) (p : Int × Int) : Bool := decide (p.1 ≤ p.2) && decide (lo ≤ p.1) && decide (p.2 ≤ hi)
theorem all_snoc (f : Int × Int → Bool) (l : List (Int × Int)) (k : Nat) (h : k < l.length) (h1 : (l.take k).all f = true) (h2 : f (l.getD k (0, 0)) = true) : (l.take (k + 1)).all f = true := by
  rw [List.take_succ_eq_append_getElem h, List.all_append, h1]
  simpa [h] using h2
theorem all_no (f : Int × Int → Bool) (l : List (Int × Int)) (k : Nat) (h : k < l.length) (h2 : f (l.getD k (0, 0)) = false) : l.all f = false := by
  rw [List.all_eq_false]
  exact ⟨l[k], List.getElem_mem h, by simpa [h] using h2⟩
set_option maxHeartbeats 600000 in
theorem within_any (lo hi : Int) (v : Value) (l : List (Int × Int)) (w : World) (h : SpansAt l v w) :
    Calls Try.prog 137 #[.agg #[.int .i64 lo, .int .i64 hi], v] w fun e w' => e = .returned (.bool (l.all (okSp lo hi))) ∧ Below w.heap.size w w' := by
  obtain ⟨b, o, cap, rfl, hb, hlen, hc⟩ := h
  go_enter Try.func137, Try.ntmps137
  go_wp2
  have hal := @cal
  have hfl := @fal
  go_loopw [9] (fun i wr => ∃ k : Nat, k ≤ l.length ∧ i = .int .i64 k ∧ Below w.heap.size w wr ∧ (l.take k).all (okSp lo hi) = true ∧ ∃ T, Box wr w.heap.size [.int .i64 lo, .int .i64 hi] T) (fun i _ => l.length - (intOf i).toNat)
  case atStart =>
    exact ⟨0, Nat.zero_le _, rfl, (Below.refl _ _).alloc (Nat.le_refl _) _, by simp, 24, (Box.fresh w _ _)⟩
  case round =>
    obtain ⟨k, hk, rfl, hB, hall, T, b1⟩ := hrel
    have HB1 := Lib.hid b1
    have ⟨c10, c11, f10, f11, l1⟩ := b1.two
    have HA := Lib.hid hall
    clear hall b1
    by_cases hlt : k < l.length
    · have hbb : b < wr.heap.size := Nat.lt_of_lt_of_le hb hB.size
      have ⟨hx, hy⟩ := hc k hlt
      rw [← hB.cell (p := ⟨b, _, none⟩) hb] at hx hy
      clear hc
      have HN := Lib.hid (all_no (okSp lo hi) l k hlt)
      have HS := Lib.hid (all_snoc (okSp lo hi) l k hlt HA.out)
      generalize l.getD k (0, 0) = p at *
      have hG : ∀ w1, Gr (wr.alloc (Obj.cells #[Value.int IntKind.i64 p.fst, Value.int IntKind.i64 p.snd] 24)) w1 → Below w.heap.size w w1 := fun w1 h => bgr (bgr hB hB.size (Gr.alloc _ _)) (by simp; omega) h
      have HG := Lib.hid hG
      clear hG
      by_cases h1 : p.2 < p.1
      · have d1 : decide (p.2 < p.1) = true := by simpa using h1
        have e1 := Lib.hid (HN.out (by simp [okSp]; omega))
        go_wp2_with (go_at_call 116; refine (empty_any _ _ _).mono ?_; rintro e w1 ⟨rfl, hb1⟩; obtain ⟨hc1, hf1, hz1⟩ := bcell hb1)
        go_ret
        exact ⟨congrArg (fun x => Ending.returned (.bool x)) e1.out.symm, HG.out _ hb1⟩
      · have d1 : decide (p.2 < p.1) = false := by simpa using h1
        by_cases h2 : p.1 < lo
        · have d2 : decide (p.1 < lo) = true := by simpa using h2
          have e1 := Lib.hid (HN.out (by simp [okSp]; omega))
          go_wp2_with (go_at_call 116; refine (empty_any _ _ _).mono ?_; rintro e w1 ⟨rfl, hb1⟩; obtain ⟨hc1, hf1, hz1⟩ := bcell hb1)
          go_ret
          exact ⟨congrArg (fun x => Ending.returned (.bool x)) e1.out.symm, HG.out _ hb1⟩
        · have d2 : decide (p.1 < lo) = false := by simpa using h2
          by_cases h3 : hi < p.2
          · have d3 : decide (hi < p.2) = true := by simpa using h3
            have e1 := Lib.hid (HN.out (by simp [okSp]; omega))
            go_wp2_with (go_at_call 116; refine (empty_any _ _ _).mono ?_; rintro e w1 ⟨rfl, hb1⟩; obtain ⟨hc1, hf1, hz1⟩ := bcell hb1)
            go_ret
            exact ⟨congrArg (fun x => Ending.returned (.bool x)) e1.out.symm, HG.out _ hb1⟩
          · have d3 : decide (hi < p.2) = false := by simpa using h3
            have e1 := Lib.hid (HS.out (by simp [okSp]; omega))
            go_wp2_with (go_at_call 116; refine (empty_any _ _ _).mono ?_; rintro e w1 ⟨rfl, hb1⟩; obtain ⟨hc1, hf1, hz1⟩ := bcell hb1)
            exact ⟨⟨k + 1, by omega, by go_num, HG.out _ hb1, e1.out, T, (HB1.out.grow (Gr.alloc _ _)).grow hb1⟩, by simp [intOf]; omega⟩
    · have : k = l.length := by omega
      subst this
      have e1 : l.all (okSp lo hi) = true := by simpa using HA.out
      have E1 := Lib.hid e1
      clear e1
      go_wp2
      go_ret
      exact ⟨congrArg (fun x => Ending.returned (.bool x)) E1.out.symm, hB⟩
end Go.Proofs.Ytjlaoiimbhlafaa.Pq

namespace Go.Proofs.Ytjlaoiimbhlafaa.Pq
open Go.RowKit


set_option maxHeartbeats 400000 in
theorem catch71_panicking (b : Nat) (x k : Int) (older : List PanicEntry) (w : World) (hc : w.cell? ⟨b, 0, none⟩ = some (.int .i64 x)) (hz : w.frozen? ⟨b, 0, none⟩ = false) (hs : b < w.heap.size) :
    CallsD Try.prog 110 #[.pointer (some ⟨b, 0, none⟩)] (.panicking ({ v := .iface 29 (.int .i64 k), recovered := false } :: older)) w fun e u' w' =>
      e = .returned (.tuple #[]) ∧ u' = .panicking ({ v := .iface 29 (.int .i64 k), recovered := true } :: older) ∧ ∃ w1, Below w.heap.size w w1 ∧ w' = w1.setCell ⟨b, 0, none⟩ (.int .i64 k) := by
  refine callsD_of_wpS Try.func110 rfl fun c₀ cs hu => ?_
  apply wpS_seq
  apply wpS_region
  simp [wpOpsS, go_sem, recoverD, hu, Try.ntmps110, Exit.thenS]
  refine wpS_of_wp ?_
  clear hu
  simp only [Array.replicate_succ, Array.replicate_zero, List.push_toArray, List.append_toArray, List.nil_append, List.cons_append, List.setIfInBounds_toArray, List.set_cons_succ, List.set_cons_zero]
  go_wp2_with (go_at_call 111; refine (errorOf_any _ _).mono ?_; rintro e w1 ⟨rfl, hb1⟩; obtain ⟨hc1, hf1, hz1⟩ := bcell hb1)
  refine ⟨rfl, _, rfl, _, by simp [results, Try.results110, go_sem], rfl, rfl, w1, hb1, rfl⟩
set_option maxHeartbeats 400000 in
theorem catch71_idle (p : Addr) (w : World) :
    CallsD Try.prog 110 #[.pointer (some p)] .returning w fun e u' w' => e = .returned (.tuple #[]) ∧ u' = .returning ∧ w' = w := by
  refine callsD_of_wpS Try.func110 rfl fun c₀ cs hu => ?_
  apply wpS_seq
  apply wpS_region
  simp [wpOpsS, go_sem, recoverD, hu, Try.ntmps110, Exit.thenS]
  refine wpS_of_wp ?_
  simp only [Array.replicate_succ, Array.replicate_zero, List.push_toArray, List.append_toArray, List.nil_append, List.cons_append, List.setIfInBounds_toArray, List.set_cons_succ, List.set_cons_zero]
  have HU := Lib.hid hu
  clear hu
  go_wp2
  refine ⟨rfl, c₀.mode, by cases c₀; rfl, _, by simp [results, Try.results110, go_sem], rfl, HU.out, rfl⟩
end Go.Proofs.Ytjlaoiimbhlafaa.Pq

namespace Go.Proofs.Ytjlaoiimbhlafaa.Pq
open Go.RowKit


inductive Wit where
  | mark (m : Int)
  | far (n f : Int)
def Wit.val : Wit → Value
  | .mark m => .iface 181 (.int .i64 m)
  | .far n f => .iface 180 (.agg #[.int .i64 n, .int .i64 f])
def Wit.powers : Wit → Int × Int → Int × Int
  | .mark m, s => (s.1 * m, (s.2 + 1) * m - 1)
  | .far n f, s => (s.1 * n, (s.2 + 1) * f - 1)
def Wit.ok : Wit → Prop
  | .mark m => 0 ≤ m ∧ m ≤ 1073741824
  | .far n f => 0 ≤ n ∧ n ≤ 1073741824 ∧ 0 ≤ f ∧ f ≤ 1073741824
structure Sg where
  wit : Wit
  lo : Int
  hi : Int
  sl : Bool
def Sg.val (s : Sg) : Value := .agg #[s.wit.val, .int .i64 s.lo, .int .i64 s.hi, .bool s.sl]
def Sg.ok (s : Sg) : Prop := s.wit.ok ∧ -8000 ≤ s.lo ∧ s.lo ≤ 8000 ∧ -8000 ≤ s.hi ∧ s.hi ≤ 8000
def Sg.st (s : Sg) : Int × Int := ovl (s.lo, s.hi) (0, 2000)
theorem Sg.st_in {s : Sg} (h : s.ok) : -10000 ≤ s.st.1 ∧ s.st.1 ≤ 10000 ∧ -10000 ≤ s.st.2 ∧ s.st.2 ≤ 10000 := by
  obtain ⟨_, h1, h2, h3, h4⟩ := h
  unfold Sg.st ovl
  simp only
  refine ⟨?_, ?_, ?_, ?_⟩ <;> split <;> omega
/-- The powers with which it stands still. -/
def Sg.pw (s : Sg) : Int × Int := s.wit.powers s.st
/-- The same, an empty span if it is slanted. -/
def Sg.spw (s : Sg) : Int × Int := if s.sl then (1, 0) else s.pw

theorem me_mark_powers (m : Int) (w : World) : (method 307 181 (.int .i64 m) "pairworks/pair.powers").run Try.prog w = .ok (162, .int .i64 m) w := by kernel_rfl
theorem me_far_powers (n f : Int) (w : World) : (method 307 180 (.agg #[.int .i64 n, .int .i64 f]) "pairworks/pair.powers").run Try.prog w = .ok (160, .agg #[.int .i64 n, .int .i64 f]) w := by kernel_rfl
set_option maxHeartbeats 400000 in
theorem steadyPower_mark (m : Int) (lo hi : Int) (w : World) (b : -10000 ≤ (ovl (lo, hi) (0, 2000)).1 ∧ (ovl (lo, hi) (0, 2000)).1 ≤ 10000 ∧ -10000 ≤ (ovl (lo, hi) (0, 2000)).2 ∧ (ovl (lo, hi) (0, 2000)).2 ≤ 10000) (h4 : 0 ≤ m) (h5 : m ≤ 1073741824) :
    Calls Try.prog 132 #[.agg #[.iface 181 (.int .i64 m), .int .i64 lo, .int .i64 hi, .bool false]] w fun e w' => e = .returned (.agg #[.int .i64 ((ovl (lo, hi) (0, 2000)).1 * m), .int .i64 (((ovl (lo, hi) (0, 2000)).2 + 1) * m - 1)]) ∧ Below w.heap.size w w' := by
  obtain ⟨b0, b1, b2, b3⟩ := b
  have hme := fun w => me_mark_powers m w
  go_enter Try.func132, Try.ntmps132
  go_wp2
  refine region2 7 ?_ ?_ ?_
  · kernel_rfl
  · kernel_rfl
  simp only [List.take_succ_cons, List.take_zero, List.drop_succ_cons, List.drop_zero]
  apply chain_eq (D := [(1, none)]) rfl (by kernel_rfl)
  · intro ρ W ⟨p1, p2, p3⟩ hG hF K hK; (try simp [FactsD] at hF); have ⟨hc, hf, hz⟩ := bcell hG; go_simp; exact hK _ (gives_val)
  apply chain_eq (D := [(6, some 0)]) rfl (by kernel_rfl)
  · intro ρ W ⟨p1, p2, p3⟩ hG hF K hK; (try simp [FactsD] at hF); have ⟨hc, hf, hz⟩ := bcell hG; go_simp; exact hK _ (gives_val)
  apply chain_eq (D := [(1, none)]) rfl (by kernel_rfl)
  · intro ρ W ⟨p1, p2, p3⟩ hG hF K hK; (try simp [FactsD] at hF); have ⟨hc, hf, hz⟩ := bcell hG; go_simp; exact hK _ (gives_val)
  apply chain_eq (D := [(8, some 0)]) rfl (by kernel_rfl)
  · intro ρ W ⟨p1, p2, p3⟩ hG hF K hK; (try simp [FactsD] at hF); have ⟨hc, hf, hz⟩ := bcell hG; go_simp; exact hK _ (gives_call (steady_any _ _ _ _ _))
  apply chain_eq (D := [(7, some 2)]) rfl (by kernel_rfl)
  · intro ρ W ⟨p1, p2, p3⟩ hG hF K hK; (try simp [FactsD] at hF); have ⟨hc, hf, hz⟩ := bcell hG; go_simp; exact hK _ (gives_val)
  apply chain_eq (D := [(7, some 3)]) rfl (by kernel_rfl)
  · intro ρ W ⟨p1, p2, p3⟩ hG hF K hK; (try simp [FactsD] at hF); have ⟨hc, hf, hz⟩ := bcell hG; go_simp; exact hK _ (gives_val)
  apply chain_eq (D := [(11, some 0), (9, some 2)]) rfl (by kernel_rfl)
  · intro ρ W ⟨p1, p2, p3⟩ hG hF K hK; (try simp [FactsD] at hF); have ⟨hc, hf, hz⟩ := bcell hG; go_simp; exact hK _ (gives_call (markPowers_any _ _ _ _ b0 b1 b2 b3 h4 h5))
  refine chain_done ?_
  intro vs W hG hV
  obtain ⟨e6, -⟩ := hV
  simp only [Nat.reduceSub] at e6
  simp only [lay, Act.put, List.getElem?_toArray, List.getElem?_cons_succ, List.getElem?_cons_zero, Option.bind_some, List.setIfInBounds_toArray, List.set_cons_succ, List.set_cons_zero]
  generalize vs 0 = v0
  generalize vs 1 = v1
  generalize vs 2 = v2
  generalize vs 3 = v3
  generalize vs 4 = v4
  generalize vs 5 = v5
  generalize vs 6 = v6 at *
  subst e6
  obtain ⟨hc, hf, hz⟩ := bcell hG
  go_wp2
  exact bodyPost_ret (v := .agg #[.int .i64 ((ovl (lo, hi) (0, 2000)).1 * m), .int .i64 (((ovl (lo, hi) (0, 2000)).2 + 1) * m - 1)]) (by simp [results, Try.results132, go_sem, hc]) rfl ⟨rfl, (((bgr (((Below.refl _ _).alloc (by first | (simp; done) | (simp; omega) | omega) _).alloc (by first | (simp; done) | (simp; omega) | omega) _) (by first | (simp; done) | (simp; omega) | omega) hG).setCell (by first | (simp; done) | (simp; omega) | omega) _).setCell (by first | (simp; done) | (simp; omega) | omega) _)⟩
set_option maxHeartbeats 400000 in
theorem steadyPower_far (n f : Int) (lo hi : Int) (w : World) (b : -10000 ≤ (ovl (lo, hi) (0, 2000)).1 ∧ (ovl (lo, hi) (0, 2000)).1 ≤ 10000 ∧ -10000 ≤ (ovl (lo, hi) (0, 2000)).2 ∧ (ovl (lo, hi) (0, 2000)).2 ≤ 10000) (h4 : 0 ≤ n) (h5 : n ≤ 1073741824) (h6 : 0 ≤ f) (h7 : f ≤ 1073741824) :
    Calls Try.prog 132 #[.agg #[.iface 180 (.agg #[.int .i64 n, .int .i64 f]), .int .i64 lo, .int .i64 hi, .bool false]] w fun e w' => e = .returned (.agg #[.int .i64 ((ovl (lo, hi) (0, 2000)).1 * n), .int .i64 (((ovl (lo, hi) (0, 2000)).2 + 1) * f - 1)]) ∧ Below w.heap.size w w' := by
  obtain ⟨b0, b1, b2, b3⟩ := b
  have hme := fun w => me_far_powers n f w
  go_enter Try.func132, Try.ntmps132
  go_wp2
  refine region2 7 ?_ ?_ ?_
  · kernel_rfl
  · kernel_rfl
  simp only [List.take_succ_cons, List.take_zero, List.drop_succ_cons, List.drop_zero]
  apply chain_eq (D := [(1, none)]) rfl (by kernel_rfl)
  · intro ρ W ⟨p1, p2, p3⟩ hG hF K hK; (try simp [FactsD] at hF); have ⟨hc, hf, hz⟩ := bcell hG; go_simp; exact hK _ (gives_val)
  apply chain_eq (D := [(6, some 0)]) rfl (by kernel_rfl)
  · intro ρ W ⟨p1, p2, p3⟩ hG hF K hK; (try simp [FactsD] at hF); have ⟨hc, hf, hz⟩ := bcell hG; go_simp; exact hK _ (gives_val)
  apply chain_eq (D := [(1, none)]) rfl (by kernel_rfl)
  · intro ρ W ⟨p1, p2, p3⟩ hG hF K hK; (try simp [FactsD] at hF); have ⟨hc, hf, hz⟩ := bcell hG; go_simp; exact hK _ (gives_val)
  apply chain_eq (D := [(8, some 0)]) rfl (by kernel_rfl)
  · intro ρ W ⟨p1, p2, p3⟩ hG hF K hK; (try simp [FactsD] at hF); have ⟨hc, hf, hz⟩ := bcell hG; go_simp; exact hK _ (gives_call (steady_any _ _ _ _ _))
  apply chain_eq (D := [(7, some 2)]) rfl (by kernel_rfl)
  · intro ρ W ⟨p1, p2, p3⟩ hG hF K hK; (try simp [FactsD] at hF); have ⟨hc, hf, hz⟩ := bcell hG; go_simp; exact hK _ (gives_val)
  apply chain_eq (D := [(7, some 3)]) rfl (by kernel_rfl)
  · intro ρ W ⟨p1, p2, p3⟩ hG hF K hK; (try simp [FactsD] at hF); have ⟨hc, hf, hz⟩ := bcell hG; go_simp; exact hK _ (gives_val)
  apply chain_eq (D := [(11, some 0), (9, some 2)]) rfl (by kernel_rfl)
  · intro ρ W ⟨p1, p2, p3⟩ hG hF K hK; (try simp [FactsD] at hF); have ⟨hc, hf, hz⟩ := bcell hG; go_simp; exact hK _ (gives_call (farPowers_any _ _ _ _ _ b0 b1 b2 b3 h4 h5 h6 h7))
  refine chain_done ?_
  intro vs W hG hV
  obtain ⟨e6, -⟩ := hV
  simp only [Nat.reduceSub] at e6
  simp only [lay, Act.put, List.getElem?_toArray, List.getElem?_cons_succ, List.getElem?_cons_zero, Option.bind_some, List.setIfInBounds_toArray, List.set_cons_succ, List.set_cons_zero]
  generalize vs 0 = v0
  generalize vs 1 = v1
  generalize vs 2 = v2
  generalize vs 3 = v3
  generalize vs 4 = v4
  generalize vs 5 = v5
  generalize vs 6 = v6 at *
  subst e6
  obtain ⟨hc, hf, hz⟩ := bcell hG
  go_wp2
  exact bodyPost_ret (v := .agg #[.int .i64 ((ovl (lo, hi) (0, 2000)).1 * n), .int .i64 (((ovl (lo, hi) (0, 2000)).2 + 1) * f - 1)]) (by simp [results, Try.results132, go_sem, hc]) rfl ⟨rfl, (((bgr (((Below.refl _ _).alloc (by first | (simp; done) | (simp; omega) | omega) _).alloc (by first | (simp; done) | (simp; omega) | omega) _) (by first | (simp; done) | (simp; omega) | omega) hG).setCell (by first | (simp; done) | (simp; omega) | omega) _).setCell (by first | (simp; done) | (simp; omega) | omega) _)⟩
set_option maxHeartbeats 400000 in
theorem steadyPower_no (wit : Value) (lo hi : Int) (w : World) :
    Calls Try.prog 132 #[.agg #[wit, .int .i64 lo, .int .i64 hi, .bool true]] w fun e w' => e = .returned (.agg #[.int .i64 1, .int .i64 0]) ∧ Below w.heap.size w w' := by
  go_enter Try.func132, Try.ntmps132
  go_wp2_with (go_at_call 140; refine (nothing_any _).mono ?_; rintro e w1 ⟨rfl, hb1⟩; obtain ⟨hc1, hf1, hz1⟩ := bcell hb1)
  exact bodyPost_ret (v := .agg #[.int .i64 1, .int .i64 0]) (by simp [results, Try.results132, go_sem, hc1]) rfl ⟨rfl, (((bgr (((Below.refl _ _).alloc (by first | (simp; done) | (simp; omega) | omega) _).alloc (by first | (simp; done) | (simp; omega) | omega) _) (by first | (simp; done) | (simp; omega) | omega) hb1).setCell (by first | (simp; done) | (simp; omega) | omega) _).setCell (by first | (simp; done) | (simp; omega) | omega) _)⟩

theorem steadyPower_any (s : Sg) (h : s.ok) (w : World) : Calls Try.prog 132 #[s.val] w fun e w' => e = .returned (.agg #[.int .i64 s.spw.1, .int .i64 s.spw.2]) ∧ Below w.heap.size w w' := by
  have hst := Sg.st_in h
  obtain ⟨wit, lo, hi, sl⟩ := s
  obtain ⟨hw, -⟩ := h
  cases sl with
  | true => exact steadyPower_no _ _ _ _
  | false =>
    cases wit with
    | mark m => exact steadyPower_mark m lo hi _ hst hw.1 hw.2
    | far n f => exact steadyPower_far n f lo hi _ hst hw.1 hw.2.1 hw.2.2.1 hw.2.2.2
end Go.Proofs.Ytjlaoiimbhlafaa.Pq
