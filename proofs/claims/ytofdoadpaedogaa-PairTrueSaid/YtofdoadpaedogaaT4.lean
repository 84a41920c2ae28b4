import Derived.Test.YtofdoadpaedogaaT3
namespace Go.Proofs.Ytofdoadpaedogaa
open Go.RowKit


theorem wraps_i64 (n : Int) (h0 : 0 ≤ n) (h1 : n < 2 ^ 63) : IntKind.i64.wrap n = n := by rw [IntKind.wrap_i64]; omega
theorem u64n (a : Nat) (h : a < 18446744073709551616) : IntKind.u64.wrap (a : Int) = (a : Int) := by rw [IntKind.wrap_u64]; omega

def p1 (m : Int) : Int := IntKind.u64.wrap (bits BinOp.and IntKind.u64 (m / 2) 6148914691236517205 + bits BinOp.and IntKind.u64 m 6148914691236517205)
def p2 (m : Int) : Int := IntKind.u64.wrap (bits BinOp.and IntKind.u64 (m / 4) 3689348814741910323 + bits BinOp.and IntKind.u64 m 3689348814741910323)
def p3 (m : Int) : Int := bits BinOp.and IntKind.u64 (IntKind.u64.wrap (m / 16 + m)) 1085102592571150095
def p4 (m : Int) : Int := IntKind.u64.wrap (m + m / 256)
def p5 (m : Int) : Int := IntKind.u64.wrap (m + m / 65536)
def p6 (m : Int) : Int := IntKind.u64.wrap (m + m / 4294967296)
def pop (m : Int) : Int := bits BinOp.and IntKind.i64 (wrap64 (p6 (p5 (p4 (p3 (p2 (p1 m))))))) 127
def q1 (m : Nat) : Nat := (m / 2 &&& 6148914691236517205) + (m &&& 6148914691236517205)
def q2 (m : Nat) : Nat := (m / 4 &&& 3689348814741910323) + (m &&& 3689348814741910323)
def q3 (m : Nat) : Nat := (m / 16 + m) &&& 1085102592571150095
def qop (m : Nat) : Nat :=
  let c := q3 (q2 (q1 m))
  let d := c + c / 256
  let e := d + d / 65536
  (e + e / 4294967296) % 128
/-- How many things are in a set. -/
def cnt (m : Nat) : Nat := ((List.range 12).filter fun i => m.testBit i).length
theorem qop_all : (List.range 4096).all (fun m => decide (qop m = cnt m) && decide (q1 m < 65536) && decide (q2 (q1 m) < 65536)) = true := by decide +kernel

theorem p1n (m : Nat) (h : m < 65536) : p1 (m : Int) = (q1 m : Int) := by
  unfold p1 q1
  have a1 : m / 2 &&& 6148914691236517205 ≤ m / 2 := Nat.and_le_left
  have a2 : m &&& 6148914691236517205 ≤ m := Nat.and_le_left
  rw [show (m : Int) / 2 = ((m / 2 : Nat) : Int) from by omega, show (6148914691236517205 : Int) = ((6148914691236517205 : Nat) : Int) from rfl, bits_and_u64_nat _ _ (by omega) (by omega), bits_and_u64_nat _ _ (by omega) (by omega), ← Int.natCast_add, u64n _ (by omega)]
theorem p2n (m : Nat) (h : m < 65536) : p2 (m : Int) = (q2 m : Int) := by
  unfold p2 q2
  have a1 : m / 4 &&& 3689348814741910323 ≤ m / 4 := Nat.and_le_left
  have a2 : m &&& 3689348814741910323 ≤ m := Nat.and_le_left
  rw [show (m : Int) / 4 = ((m / 4 : Nat) : Int) from by omega, show (3689348814741910323 : Int) = ((3689348814741910323 : Nat) : Int) from rfl, bits_and_u64_nat _ _ (by omega) (by omega), bits_and_u64_nat _ _ (by omega) (by omega), ← Int.natCast_add, u64n _ (by omega)]
theorem p3n (m : Nat) (h : m < 65536) : p3 (m : Int) = (q3 m : Int) ∧ q3 m < 131072 := by
  unfold p3 q3
  have a1 : (m / 16 + m) &&& 1085102592571150095 ≤ m / 16 + m := Nat.and_le_left
  refine ⟨?_, by omega⟩
  rw [show (m : Int) / 16 + (m : Int) = ((m / 16 + m : Nat) : Int) from by omega, u64n _ (by omega), show (1085102592571150095 : Int) = ((1085102592571150095 : Nat) : Int) from rfl, bits_and_u64_nat _ _ (by omega) (by omega)]
theorem pop_cnt (m : Nat) (h : m < 4096) : pop (m : Int) = (cnt m : Int) := by
  have h1 := List.all_eq_true.1 qop_all m (List.mem_range.2 h)
  simp only [Bool.and_eq_true, decide_eq_true_eq] at h1
  obtain ⟨⟨h1, h2⟩, h3⟩ := h1
  rw [← h1]
  unfold pop qop
  rw [p1n m (by omega), p2n _ h2]
  obtain ⟨h4, h5⟩ := p3n (q2 (q1 m)) h3
  rw [h4]
  generalize q3 (q2 (q1 m)) = c at *
  rw [i64_and127]
  have e4 : p4 (c : Int) = ((c + c / 256 : Nat) : Int) := by unfold p4; rw [show (c : Int) + (c : Int) / 256 = ((c + c / 256 : Nat) : Int) from by omega, u64n _ (by omega)]
  rw [e4]
  have b4 : c + c / 256 < 200000 := by omega
  simp only
  generalize c + c / 256 = d at *
  have e5 : p5 (d : Int) = ((d + d / 65536 : Nat) : Int) := by unfold p5; rw [show (d : Int) + (d : Int) / 65536 = ((d + d / 65536 : Nat) : Int) from by omega, u64n _ (by omega)]
  rw [e5]
  have b5 : d + d / 65536 < 400000 := by omega
  generalize d + d / 65536 = e at *
  have e6 : p6 (e : Int) = ((e + e / 4294967296 : Nat) : Int) := by unfold p6; rw [show (e : Int) + (e : Int) / 4294967296 = ((e + e / 4294967296 : Nat) : Int) from by omega, u64n _ (by omega)]
  rw [e6, IntWalk.wrap64_in _ ⟨by omega, by omega⟩]
  omega
theorem pow_lt (k : Nat) (h : k < 12) : 2 ^ k < 4096 := by
  have := Nat.pow_lt_pow_right (a := 2) (by omega) h
  simpa using this
theorem shl_in (k : Nat) (h : k < 12) : wrap64 (2 ^ k) = ((2 ^ k : Nat) : Int) := by
  have := pow_lt k h
  rw [show ((2 : Int) ^ k) = ((2 ^ k : Nat) : Int) from by simp]
  generalize 2 ^ k = p at *
  rw [IntWalk.wrap64_in _ ⟨by omega, by omega⟩]
theorem or_set (m k : Nat) (h : m < 4096) (hk : k < 12) : bits BinOp.or IntKind.i64 (m : Int) (wrap64 (2 ^ k)) = ((m ||| 2 ^ k : Nat) : Int) := by
  have := pow_lt k hk
  rw [shl_in k hk]
  exact (bits_nat .i64 63 (by decide) wraps_i64 m (2 ^ k) (by omega) (by omega)).2
theorem and_set (m k : Nat) (h : m < 4096) (hk : k < 12) : (bits BinOp.and IntKind.i64 (m : Int) (wrap64 (2 ^ k)) != 0) = m.testBit k := by
  have := pow_lt k hk
  rw [shl_in k hk, (bits_nat .i64 63 (by decide) wraps_i64 m (2 ^ k) (by omega) (by omega)).1]
  cases hb : m.testBit k with
  | true =>
    rw [bne_iff_ne]
    intro h0
    have h0' : m &&& 2 ^ k = 0 := by omega
    have h2 : (m &&& 2 ^ k).testBit k = true := by simp [Nat.testBit_and, hb]
    rw [h0'] at h2
    simp at h2
  | false =>
    have h0 : m &&& 2 ^ k = 0 := by
      apply Nat.eq_of_testBit_eq
      intro i
      rw [Nat.testBit_and, Nat.testBit_two_pow, Nat.zero_testBit]
      by_cases e : k = i
      · subst e; simp [hb]
      · simp [e]
    rw [h0]
    rfl
set_option maxHeartbeats 400000 in
theorem with_any (m k : Nat) (w : World) (h0 : k < 12) (h1 : m < 4096) :
    Calls Try.prog 88 #[.int .i64 m, .int .i64 k] w fun e w' => e = .returned (.int .i64 ((m ||| 2 ^ k : Nat) : Int)) ∧ Below w.heap.size w w' := by
  have e1 := Lib.hid (or_set m k h1 h0)
  go_enter Try.func88, Try.ntmps88
  go_wp2
  go_ret
  exact ⟨congrArg (fun x => Ending.returned (.int .i64 x)) (by first | exact e1.out | simpa using e1.out), Below.refl _ _⟩
set_option maxHeartbeats 400000 in
theorem has_any (m k : Nat) (w : World) (h0 : k < 12) (h1 : m < 4096) :
    Calls Try.prog 91 #[.int .i64 m, .int .i64 k] w fun e w' => e = .returned (.bool (m.testBit k)) ∧ Below w.heap.size w w' := by
  have e1 := Lib.hid (and_set m k h1 h0)
  go_enter Try.func91, Try.ntmps91
  go_wp2
  go_ret
  exact ⟨congrArg (fun x => Ending.returned (.bool x)) (by first | exact e1.out | simpa using e1.out), Below.refl _ _⟩
set_option maxHeartbeats 400000 in
theorem ones64_any (m : Nat) (w : World) (h1 : m < 4096) :
    Calls Try.prog 103 #[.int .u64 m] w fun e w' => e = .returned (.int .i64 (cnt m)) ∧ Below w.heap.size w w' := by
  have e1 := Lib.hid (pop_cnt m h1)
  go_enter Try.func103, Try.ntmps103
  go_wp2
  go_ret
  exact ⟨congrArg (fun x => Ending.returned (.int .i64 x)) (by exact e1.out), Below.refl _ _⟩
set_option maxHeartbeats 400000 in
theorem ones_any (m : Nat) (w : World) (h1 : m < 4096) :
    Calls Try.prog 101 #[.int .u64 m] w fun e w' => e = .returned (.int .i64 (cnt m)) ∧ Below w.heap.size w w' := by
  go_enter Try.func101, Try.ntmps101
  go_wp2_with (go_at_call 103; refine (ones64_any m _ h1).mono ?_; rintro e w1 ⟨rfl, hb1⟩)
  go_ret
  exact ⟨rfl, hb1⟩
set_option maxHeartbeats 400000 in
theorem many_any (m : Nat) (w : World) (h1 : m < 4096) :
    Calls Try.prog 98 #[.int .i64 m] w fun e w' => e = .returned (.int .i64 (cnt m)) ∧ Below w.heap.size w w' := by
  go_enter Try.func98, Try.ntmps98
  go_wp2_with (go_at_call 101; refine (ones_any m _ h1).mono ?_; rintro e w1 ⟨rfl, hb1⟩)
  go_ret
  exact ⟨rfl, hb1⟩
end Go.Proofs.Ytofdoadpaedogaa
