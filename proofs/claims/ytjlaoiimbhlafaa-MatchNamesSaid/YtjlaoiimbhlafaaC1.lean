import Derived.Test.YtjlaoiimbhlafaaM
import Derived.Test.YtjlaoiimbhlafaaB3
set_option linter.unusedVariables false
set_option linter.unusedSimpArgs false
namespace Go.Proofs.Ytjlaoiimbhlafaa
open Go.RowKit Go.Shelf

open MW
theorem wraps_i63 (n : Int) (h0 : 0 ≤ n) (h1 : n < 2 ^ 63) : IntKind.i64.wrap n = n := by rw [IntKind.wrap_i64]; omega
theorem pow11 (k : Nat) (h : k ≤ 10) : 2 ^ k < 2048 ∧ 0 < 2 ^ k := by
  have := Nat.pow_lt_pow_right (a := 2) (by omega) (show k < 11 by omega)
  exact ⟨by simpa using this, Nat.two_pow_pos k⟩
theorem sh_in (k : Nat) (h : k ≤ 10) : wrap64 (2 ^ k) = ((2 ^ k : Nat) : Int) := by
  have := pow11 k h
  rw [show ((2 : Int) ^ k) = ((2 ^ k : Nat) : Int) from by simp]
  generalize 2 ^ k = p at *
  rw [IntWalk.wrap64_in _ ⟨by omega, by omega⟩]
theorem or_n (m n : Nat) (h : m < 2048) (hk : n < 2048) : bits BinOp.or IntKind.i64 (m : Int) (n : Int) = ((m ||| n : Nat) : Int) :=
  (bits_nat .i64 63 (by decide) wraps_i63 m n (by omega) (by omega)).2
theorem and_n (m n : Nat) (h : m < 2048) (hk : n < 2048) : bits BinOp.and IntKind.i64 (m : Int) (n : Int) = ((m &&& n : Nat) : Int) :=
  (bits_nat .i64 63 (by decide) wraps_i63 m n (by omega) (by omega)).1
theorem and_bit (m k : Nat) : (((m &&& 2 ^ k : Nat) : Int) != 0) = m.testBit k := by
  cases hb : m.testBit k with
  | true =>
    rw [bne_iff_ne]
    intro h0
    have h0' : m &&& 2 ^ k = 0 := by omega
    have h2 : (m &&& 2 ^ k).testBit k = true := by simp [Nat.testBit_and, hb]
    rw [h0'] at h2
    simp at h2
  | false =>
    have h0 : m &&& 2 ^ k = 0 := by
      apply Nat.eq_of_testBit_eq
      intro i
      rw [Nat.testBit_and, Nat.testBit_two_pow, Nat.zero_testBit]
      by_cases e : k = i
      · subst e; simp [hb]
      · simp [e]
    rw [h0]
    rfl
/-- a set without a number -/
def cl (m k : Nat) : Nat := gat (fun j => m.testBit j && j != k) 11
theorem cl_all : (List.range 11).all (fun k => (List.range 2048).all fun m => bits BinOp.andNot IntKind.i64 ((m : Nat) : Int) (((2 ^ k : Nat) : Int)) == ((cl m k : Nat) : Int)) = true := by decide +kernel
theorem andNot_n (m k : Nat) (h : m < 2048) (hk : k ≤ 10) : bits BinOp.andNot IntKind.i64 (m : Int) ((2 ^ k : Nat) : Int) = ((cl m k : Nat) : Int) := by
  have h1 := List.all_eq_true.1 (List.all_eq_true.1 cl_all k (List.mem_range.2 (by omega))) m (List.mem_range.2 h)
  simpa using h1
theorem cl_lt (m k : Nat) : cl m k < 2048 := gat_lt _ 11
theorem cl_bit {m k j : Nat} (h : m < 2048) : (cl m k).testBit j = (m.testBit j && j != k) := by
  unfold cl
  rw [gat_bit]
  by_cases hj : j < 11
  · simp [hj]
  · have : m.testBit j = false := Nat.testBit_lt_two_pow (Nat.lt_of_lt_of_le h (by have := Nat.pow_le_pow_right (n := 2) (by omega) (show 11 ≤ j by omega); simpa using this))
    simp [hj, this]
set_option maxHeartbeats 400000 in
theorem setOf_any (k : Nat) (w : World) (h0 : k ≤ 10) :
    Calls Try.prog 105 #[.int .i64 k] w fun e w' => e = .returned (.int .i64 ((2 ^ k : Nat) : Int)) ∧ Below w.heap.size w w' := by
  have e1 := Lib.hid (sh_in k h0)
  go_enter Try.func105, Try.ntmps105
  go_wp2
  go_ret
  exact ⟨congrArg (fun x => Ending.returned (.int .i64 x)) (by first | exact e1.out | simpa using e1.out), Below.refl _ _⟩
set_option maxHeartbeats 400000 in
theorem both_any (m n : Nat) (w : World) (h0 : m < 2048) (h1 : n < 2048) :
    Calls Try.prog 123 #[.int .i64 m, .int .i64 n] w fun e w' => e = .returned (.int .i64 ((m &&& n : Nat) : Int)) ∧ Below w.heap.size w w' := by
  have e1 := Lib.hid (and_n m n h0 h1)
  go_enter Try.func123, Try.ntmps123
  go_wp2
  go_ret
  exact ⟨congrArg (fun x => Ending.returned (.int .i64 x)) (by first | exact e1.out | simpa using e1.out), Below.refl _ _⟩
set_option maxHeartbeats 400000 in
theorem minus_any (m k : Nat) (w : World) (h0 : m < 2048) (h1 : k ≤ 10) :
    Calls Try.prog 124 #[.int .i64 m, .int .i64 ((2 ^ k : Nat) : Int)] w fun e w' => e = .returned (.int .i64 (cl m k : Nat)) ∧ Below w.heap.size w w' := by
  have e1 := Lib.hid (andNot_n m k h0 h1)
  generalize ((2 ^ k : Nat) : Int) = p at *
  go_enter Try.func124, Try.ntmps124
  go_wp2
  go_ret
  exact ⟨congrArg (fun x => Ending.returned (.int .i64 x)) (by first | exact e1.out | simpa using e1.out), Below.refl _ _⟩
set_option maxHeartbeats 400000 in
theorem has_any (m k : Nat) (w : World) (h0 : m < 2048) (h1 : k ≤ 10) :
    Calls Try.prog 68 #[.int .i64 m, .int .i64 k] w fun e w' => e = .returned (.bool (m.testBit k)) ∧ Below w.heap.size w w' := by
  have e1 := Lib.hid (and_n m (2 ^ k) h0 (pow11 k h1).1)
  have e2 := Lib.hid (and_bit m k)
  have HC := Lib.hid (fun W => setOf_any k W h1)
  generalize ((2 ^ k : Nat) : Int) = p at *
  generalize ((m &&& 2 ^ k : Nat) : Int) = q at *
  go_enter Try.func68, Try.ntmps68
  go_wp2_with (go_at_call 105; refine (HC.out _).mono ?_; rintro e w1 ⟨rfl, hb1⟩)
  go_ret
  refine ⟨congrArg (fun x => Ending.returned (.bool x)) ?_, hb1⟩
  rw [← e2.out]
  exact congrArg (fun x => x != (0 : Int)) e1.out
set_option maxHeartbeats 400000 in
theorem join_any (m n b : Nat) (w : World) (T : TypeId) (h0 : m < 2048) (h1 : n < 2048) (hb : Box w b [.int .i64 m, .int .i64 n] T) :
    Calls Try.prog 104 #[.slice (some ⟨b, 0, none⟩) 2 2] w fun e w' => e = .returned (.int .i64 ((m ||| n : Nat) : Int)) ∧ Below w.heap.size w w' := by
  have e1 := Lib.hid (or_n 0 m (by omega) h0)
  have e2 := Lib.hid (or_n m n h0 h1)
  have c0 := hb.cell (i := 0) rfl
  have c1 := hb.cell (i := 1) rfl
  have hl := hb.lt
  go_enter Try.func104, Try.ntmps104
  go_wp2
  go_loopw [3, 8] (fun a i wr => wr = w ∧ ((i = .int .i64 0 ∧ a = .int .i64 0) ∨ (i = .int .i64 1 ∧ a = .int .i64 m) ∨ (i = .int .i64 2 ∧ a = .int .i64 ((m ||| n : Nat) : Int)))) (fun _ i _ => 2 - (intOf i).toNat)
  case atStart => exact ⟨rfl, .inl ⟨rfl, rfl⟩⟩
  case round =>
    obtain ⟨rfl, hi⟩ := hrel
    rcases hi with ⟨rfl, rfl⟩ | ⟨rfl, rfl⟩ | ⟨rfl, rfl⟩
    · go_wp2
      refine ⟨⟨trivial, .inr (.inl ⟨by go_num, congrArg (Value.int .i64) ?_⟩)⟩, by simp [intOf]⟩
      have := e1.out
      simpa using this
    · go_wp2
      exact ⟨⟨trivial, .inr (.inr ⟨by go_num, congrArg (Value.int .i64) e2.out⟩)⟩, by simp [intOf]⟩
    · go_wp2
      go_ret
      exact ⟨rfl, Below.refl _ _⟩

end Go.Proofs.Ytjlaoiimbhlafaa
