import Derived.Test.YtjlaoiimbhlafaaP1
import Derived.Test.YtjlaoiimbhlafaaP2
import Derived.DeepKeys3
import Derived.WideKeyRuns
set_option linter.unusedVariables false
set_option linter.unusedSimpArgs false
namespace Go.Proofs.Ytjlaoiimbhlafaa
open Go.RowKit Go.Shelf

open MW
theorem wraps_i63 (n : Int) (h0 : 0 ≤ n) (h1 : n < 2 ^ 63) : IntKind.i64.wrap n = n := by rw [IntKind.wrap_i64]; omega
theorem pow11 (k : Nat) (h : k ≤ 10) : 2 ^ k < 2048 ∧ 0 < 2 ^ k := by
  have := Nat.pow_lt_pow_right (a := 2) (by omega) (show k < 11 by omega)
  exact ⟨by simpa using this, Nat.two_pow_pos k⟩
theorem sh_in (k : Nat) (h : k ≤ 10) : wrap64 (2 ^ k) = ((2 ^ k : Nat) : Int) := by
  have := pow11 k h
  rw [show ((2 : Int) ^ k) = ((2 ^ k : Nat) : Int) from by simp]
  generalize 2 ^ k = p at *
  rw [IntWalk.wrap64_in _ ⟨by omega, by omega⟩]
theorem or_n (m n : Nat) (h : m < 2048) (hk : n < 2048) : bits BinOp.or IntKind.i64 (m : Int) (n : Int) = ((m ||| n : Nat) : Int) :=
  (bits_nat .i64 63 (by decide) wraps_i63 m n (by omega) (by omega)).2
theorem and_n (m n : Nat) (h : m < 2048) (hk : n < 2048) : bits BinOp.and IntKind.i64 (m : Int) (n : Int) = ((m &&& n : Nat) : Int) :=
  (bits_nat .i64 63 (by decide) wraps_i63 m n (by omega) (by omega)).1
theorem and_bit (m k : Nat) : (((m &&& 2 ^ k : Nat) : Int) != 0) = m.testBit k := by
  cases hb : m.testBit k with
  | true =>
    rw [bne_iff_ne]
    intro h0
    have h0' : m &&& 2 ^ k = 0 := by omega
    have h2 : (m &&& 2 ^ k).testBit k = true := by simp [Nat.testBit_and, hb]
    rw [h0'] at h2
    simp at h2
  | false =>
    have h0 : m &&& 2 ^ k = 0 := by
      apply Nat.eq_of_testBit_eq
      intro i
      rw [Nat.testBit_and, Nat.testBit_two_pow, Nat.zero_testBit]
      by_cases e : k = i
      · subst e; simp [hb]
      · simp [e]
    rw [h0]
    rfl
/-- a set without a number -/
def cl (m k : Nat) : Nat := gat (fun j => m.testBit j && j != k) 11
theorem cl_all : (List.range 11).all (fun k => (List.range 2048).all fun m => bits BinOp.andNot IntKind.i64 ((m : Nat) : Int) (((2 ^ k : Nat) : Int)) == ((cl m k : Nat) : Int)) = true := by decide +kernel
theorem andNot_n (m k : Nat) (h : m < 2048) (hk : k ≤ 10) : bits BinOp.andNot IntKind.i64 (m : Int) ((2 ^ k : Nat) : Int) = ((cl m k : Nat) : Int) := by
  have h1 := List.all_eq_true.1 (List.all_eq_true.1 cl_all k (List.mem_range.2 (by omega))) m (List.mem_range.2 h)
  simpa using h1
theorem cl_lt (m k : Nat) : cl m k < 2048 := gat_lt _ 11
theorem cl_bit {m k j : Nat} (h : m < 2048) : (cl m k).testBit j = (m.testBit j && j != k) := by
  unfold cl
  rw [gat_bit]
  by_cases hj : j < 11
  · simp [hj]
  · have : m.testBit j = false := Nat.testBit_lt_two_pow (Nat.lt_of_lt_of_le h (by have := Nat.pow_le_pow_right (n := 2) (by omega) (show 11 ≤ j by omega); simpa using this))
    simp [hj, this]
set_option maxHeartbeats 400000 in
theorem setOf_any (k : Nat) (w : World) (h0 : k ≤ 10) :
    Calls Try.prog 105 #[.int .i64 k] w fun e w' => e = .returned (.int .i64 ((2 ^ k : Nat) : Int)) ∧ Below w.heap.size w w' := by
  have e1 := Lib.hid (sh_in k h0)
  go_enter Try.func105, Try.ntmps105
  go_wp2
  go_ret
  exact ⟨congrArg (fun x => Ending.returned (.int .i64 x)) (by first | exact e1.out | simpa using e1.out), Below.refl _ _⟩
set_option maxHeartbeats 400000 in
theorem both_any (m n : Nat) (w : World) (h0 : m < 2048) (h1 : n < 2048) :
    Calls Try.prog 123 #[.int .i64 m, .int .i64 n] w fun e w' => e = .returned (.int .i64 ((m &&& n : Nat) : Int)) ∧ Below w.heap.size w w' := by
  have e1 := Lib.hid (and_n m n h0 h1)
  go_enter Try.func123, Try.ntmps123
  go_wp2
  go_ret
  exact ⟨congrArg (fun x => Ending.returned (.int .i64 x)) (by first | exact e1.out | simpa using e1.out), Below.refl _ _⟩
set_option maxHeartbeats 400000 in
theorem minus_any (m k : Nat) (w : World) (h0 : m < 2048) (h1 : k ≤ 10) :
    Calls Try.prog 124 #[.int .i64 m, .int .i64 ((2 ^ k : Nat) : Int)] w fun e w' => e = .returned (.int .i64 (cl m k : Nat)) ∧ Below w.heap.size w w' := by
  have e1 := Lib.hid (andNot_n m k h0 h1)
  generalize ((2 ^ k : Nat) : Int) = p at *
  go_enter Try.func124, Try.ntmps124
  go_wp2
  go_ret
  exact ⟨congrArg (fun x => Ending.returned (.int .i64 x)) (by first | exact e1.out | simpa using e1.out), Below.refl _ _⟩
set_option maxHeartbeats 400000 in
theorem has_any (m k : Nat) (w : World) (h0 : m < 2048) (h1 : k ≤ 10) :
    Calls Try.prog 68 #[.int .i64 m, .int .i64 k] w fun e w' => e = .returned (.bool (m.testBit k)) ∧ Below w.heap.size w w' := by
  have e1 := Lib.hid (and_n m (2 ^ k) h0 (pow11 k h1).1)
  have e2 := Lib.hid (and_bit m k)
  have HC := Lib.hid (fun W => setOf_any k W h1)
  generalize ((2 ^ k : Nat) : Int) = p at *
  generalize ((m &&& 2 ^ k : Nat) : Int) = q at *
  go_enter Try.func68, Try.ntmps68
  go_wp2_with (go_at_call 105; refine (HC.out _).mono ?_; rintro e w1 ⟨rfl, hb1⟩)
  go_ret
  refine ⟨congrArg (fun x => Ending.returned (.bool x)) ?_, hb1⟩
  rw [← e2.out]
  exact congrArg (fun x => x != (0 : Int)) e1.out
set_option maxHeartbeats 400000 in
theorem join_any (m n b : Nat) (w : World) (T : TypeId) (h0 : m < 2048) (h1 : n < 2048) (hb : Box w b [.int .i64 m, .int .i64 n] T) :
    Calls Try.prog 104 #[.slice (some ⟨b, 0, none⟩) 2 2] w fun e w' => e = .returned (.int .i64 ((m ||| n : Nat) : Int)) ∧ Below w.heap.size w w' := by
  have e1 := Lib.hid (or_n 0 m (by omega) h0)
  have e2 := Lib.hid (or_n m n h0 h1)
  have c0 := hb.cell (i := 0) rfl
  have c1 := hb.cell (i := 1) rfl
  have hl := hb.lt
  go_enter Try.func104, Try.ntmps104
  go_wp2
  go_loopw [3, 8] (fun a i wr => wr = w ∧ ((i = .int .i64 0 ∧ a = .int .i64 0) ∨ (i = .int .i64 1 ∧ a = .int .i64 m) ∨ (i = .int .i64 2 ∧ a = .int .i64 ((m ||| n : Nat) : Int)))) (fun _ i _ => 2 - (intOf i).toNat)
  case atStart => exact ⟨rfl, .inl ⟨rfl, rfl⟩⟩
  case round =>
    obtain ⟨rfl, hi⟩ := hrel
    rcases hi with ⟨rfl, rfl⟩ | ⟨rfl, rfl⟩ | ⟨rfl, rfl⟩
    · go_wp2
      refine ⟨⟨trivial, .inr (.inl ⟨by go_num, congrArg (Value.int .i64) ?_⟩)⟩, by simp [intOf]⟩
      have := e1.out
      simpa using this
    · go_wp2
      exact ⟨⟨trivial, .inr (.inr ⟨by go_num, congrArg (Value.int .i64) e2.out⟩)⟩, by simp [intOf]⟩
    · go_wp2
      go_ret
      exact ⟨rfl, Below.refl _ _⟩

end Go.Proofs.Ytjlaoiimbhlafaa
section
namespace Go.Proofs.Ytjlaoiimbhlafaa
open Go.RowKit Go.Shelf

open MW
attribute [local go_sem] Oper.semAt_some
/-- A number below a bound that is wanted. -/
structure Wt (many : Nat) (f : Nat → Bool) where
  v : Nat
  lt : v < many
  is : f v = true
def encW {many : Nat} {f : Nat → Bool} (x : Wt many f) : Array Value := #[.int .i64 x.v]
def wts (many : Nat) (f : Nat → Bool) : List Nat := (List.range many).filter f
theorem wts_succ (n : Nat) (f : Nat → Bool) : wts (n + 1) f = wts n f ++ (if f n then [n] else []) := by
  unfold wts
  rw [List.range_succ, List.filter_append]
  cases h : f n <;> simp [h]
theorem wts_len (n : Nat) (f : Nat → Bool) : (wts n f).length ≤ n := by
  unfold wts
  have := List.length_filter_le f (List.range n)
  rwa [List.length_range] at this
theorem wts_pre (f : Nat → Bool) {n : Nat} : ∀ {m : Nat}, n ≤ m → ∃ rest, wts m f = wts n f ++ rest
  | 0, h => ⟨[], by have : n = 0 := by omega
                    subst this; simp⟩
  | m + 1, h => by
    by_cases hn : n = m + 1
    · exact ⟨[], by rw [hn]; simp⟩
    · obtain ⟨r, hr⟩ := wts_pre f (show n ≤ m by omega)
      exact ⟨r ++ _, by rw [wts_succ, hr, List.append_assoc]⟩
set_option maxRecDepth 100000 in
set_option maxHeartbeats 2000000 in
theorem marksH_any (m : Nat) (many : Nat) (f : Nat → Bool) (S : List Nat) (b1 b2 y : Nat) (J Jx : List (Wt many f) → World → Prop) (W : World) (hmany : many ≤ 20)
    (hf : ∀ W', KeepAt S W W' → ∀ k : Nat, k < many → Calls Try.prog 68 #[.int .i64 m, .int .i64 k] W' fun e w' => e = .returned (.bool (f k)) ∧ Below W'.heap.size W' w')
    (hAJ : ∀ s A B, J s A → Gr A B → J s B)
    (hY : ∀ pre x W, J pre W → pre.length < 1000 → YieldAt Fence.wide 7 Try.prog y (encW x) W fun e W' =>
      (e = .returned (.bool true) ∧ J (pre ++ [x]) W' ∧ KeepAt (b1 :: b2 :: S) W W') ∨ (e = .returned (.bool false) ∧ Jx (pre ++ [x]) W'))
    (hb1 : Box W b1 [.int .i64 many] 3) (hb2 : Box W b2 [.func (.func 68) #[.int .i64 m] #[]] 102) (h0 : J [] W) :
    CallsIn Fence.wide 8 Try.prog 107 #[.func (.yield y) #[] #[], .pointer (some ⟨b1, 0, none⟩), .pointer (some ⟨b2, 0, none⟩)] W fun e W' => (∃ v, e = .returned v) ∧
      ((∃ ys : List (Wt many f), ys.map Wt.v = wts many f ∧ J ys W') ∨ (∃ pre : List (Wt many f), (∃ rest, wts many f = pre.map Wt.v ++ rest) ∧ Jx pre W')) := by
  have HF := Lib.hid hf
  have HAJ := Lib.hid hAJ
  have HY := Lib.hid hY
  have HB1 := Lib.hid hb1
  have HB2 := Lib.hid hb2
  have H0 := Lib.hid h0
  have c0 := hb1.cell (i := 0) rfl
  have l0 := hb1.lt
  clear hf hAJ hY hb1 hb2 h0
  refine callsIn_of_wp Try.func107 rfl trivial ?_ rfl
  simp only [Try.ntmps107, List.size_toArray, List.length_cons, List.length_nil, Nat.reduceAdd, Nat.reduceSub, Array.replicate_succ, Array.replicate_zero, List.push_toArray, List.append_toArray, List.nil_append, List.cons_append]
  gi_wp2
  gi_loopw [6] (fun t wr => ∃ i : Nat, i ≤ many ∧ t = .int .i64 i ∧ Hid (∃ ys : List (Wt many f), ys.map Wt.v = wts i f ∧ J ys wr) ∧ KeepAt (b1 :: b2 :: S) W wr) (fun t _ => (50 - intOf t).toNat)
  case atStart => exact ⟨0, Nat.zero_le _, rfl, Lib.hid ⟨[], rfl, H0.out⟩, KeepAt.refl _ _⟩
  case round =>
    obtain ⟨i, hi, rfl, HJ, hK⟩ := hrel
    have HK := Lib.hid hK
    clear hK c0 l0
    have c2 := (HK.out.box HB2.out (by simp)).cell (i := 0) rfl
    have l2 := (HK.out.box HB2.out (by simp)).lt
    by_cases hlt : i < many
    · have HS := Lib.hid (wts_succ i f)
      obtain ⟨ys, hys, hJ⟩ := HJ.out
      have hyl : ys.length < 1000 := by
        have h1 := congrArg List.length hys
        have h2 := wts_len i f
        rw [List.length_map] at h1
        omega
      have HYS := Lib.hid hys
      have HJ2 := Lib.hid hJ
      have HC := Lib.hid (HF.out wr (HK.out.mono fun k hk => by simp [hk]) i hlt)
      clear hys hJ
      cases hfi : f i with
      | true =>
        have HFI := Lib.hid hfi
        rw [hfi] at HS HC
        clear hfi
        gi_wp2_with (refine ⟨trivial, ?_⟩; gi_at_call 68; refine (callsIn_wide.2 HC.out).mono ?_; rintro e w2 ⟨rfl, hb2⟩; have HG2 := Lib.hid (show Gr wr w2 from hb2); obtain ⟨hc2, hf2, hz2⟩ := bcell HG2.out; clear hb2; obtain ⟨fn3, t3, a3, b3, hy3, hR3⟩ := HY.out ys ⟨i, hlt, HFI.out⟩ w2 (HAJ.out _ _ _ HJ2.out HG2.out) hyl; dsimp only [encW] at hy3)
        refine hR3.mono ?_
        rintro e W3 (⟨rfl, hJ3, hk3⟩ | ⟨rfl, hx3⟩)
        · have HJ3 := Lib.hid hJ3
          have HK3 := Lib.hid (HK.out.trans ((KeepAt.of HG2.out).trans hk3))
          clear hJ3 hk3 hy3 hR3 hc2 hf2 hz2 c2
          gi_wp2
          refine ⟨⟨i + 1, by omega, by go_num, Lib.hid ⟨_, ?_, HJ3.out⟩, HK3.out⟩, by simp [intOf]; omega⟩
          rw [HS.out, List.map_append, HYS.out]
          rfl
        · gi_wp2
          refine bodyPost_ret (results_none rfl _ _ _) rfl ?_
          obtain ⟨rest, hrest⟩ := wts_pre f (show i + 1 ≤ many by omega)
          refine ⟨⟨_, rfl⟩, .inr ⟨_, ⟨rest, ?_⟩, hx3⟩⟩
          rw [List.map_append, HYS.out, hrest, HS.out]
          rfl
      | false =>
        rw [hfi] at HS HC
        clear hfi
        gi_wp2_with (refine ⟨trivial, ?_⟩; gi_at_call 68; refine (callsIn_wide.2 HC.out).mono ?_; rintro e w2 ⟨rfl, hb2⟩; have HG2 := Lib.hid (show Gr wr w2 from hb2); clear hb2)
        refine ⟨fun _ h => (by cases h), ?_⟩
        gi_wp2
        refine ⟨⟨i + 1, by omega, by go_num, Lib.hid ⟨ys, ?_, HAJ.out _ _ _ HJ2.out HG2.out⟩, HK.out.trans (KeepAt.of HG2.out)⟩, by simp [intOf]; omega⟩
        rw [HS.out, HYS.out]
        simp
    · have hil : i = many := by omega
      have HIL := Lib.hid hil
      clear hil
      gi_wp2
      go_end0
      obtain ⟨ys, hys, hJ⟩ := HJ.out
      refine ⟨⟨_, rfl⟩, .inl ⟨ys, ?_, hJ⟩⟩
      rw [hys, HIL.out]
/-- As an iterator that may be left. -/
theorem marksH_stops (m : Nat) (many : Nat) (f : Nat → Bool) (S : List Nat) (b1 b2 n : Nat) (w : World) (hmany : many ≤ 20)
    (hf : ∀ W', KeepAt S w W' → ∀ k : Nat, k < many → Calls Try.prog 68 #[.int .i64 m, .int .i64 k] W' fun e w' => e = .returned (.bool (f k)) ∧ Below W'.heap.size W' w')
    (hb1 : Box w b1 [.int .i64 many] 3) (hb2 : Box w b2 [.func (.func 68) #[.int .i64 m] #[]] 102) :
    SeqStopsK Fence.wide n Try.prog 107 #[.pointer (some ⟨b1, 0, none⟩), .pointer (some ⟨b2, 0, none⟩)] (encW (many := many) (f := f)) (KeepAt (b1 :: b2 :: S)) (fun ys => ys.map Wt.v = wts many f) (fun pre => ∃ rest, wts many f = pre.map Wt.v ++ rest) 1000 w :=
  SeqStopsK.depth (n := 8) rfl fun y J Jx W hW hAJ _hAX hY h0 =>
    marksH_any m many f S b1 b2 y J Jx W hmany (fun W' hK => hf W' ((KeepAt.of hW).trans hK)) (fun s A B h hg => hAJ s A B none h (Gr.gro hg) (fun r e => by cases e)) hY (hb1.grow hW) (hb2.grow hW) h0

end Go.Proofs.Ytjlaoiimbhlafaa
end
namespace Go.Proofs.Ytjlaoiimbhlafaa
open Go.RowKit Go.Shelf

open MW
/-- Rows that are looked at. -/
structure Lk where
  lp : Option Addr
  lc : Nat
  rp : Option Addr
  rc : Nat
  nL : Nat
  nR : Nat
  s : Int
  t : Int
  h : Int
  fit : Nat → Nat → Bool
  all : Nat → Nat
def Lk.rows (k : Lk) : List Value := [.slice k.lp k.nL k.lc, .slice k.rp k.nR k.rc, .int .i64 k.s, .int .i64 k.t, .int .i64 k.h]
def fitc (f : Nat → Nat → Bool) : List Value := (List.range 100).map fun j => .bool (f (j / 10) (j % 10))
def opts (m : Nat → Nat) : List Value := (List.range 10).map fun i => .int .i64 (m i)
def Lk.cs (k : Lk) : List Value := k.rows ++ (fitc k.fit ++ opts k.all)
theorem fitc_len (f : Nat → Nat → Bool) : (fitc f).length = 100 := by unfold fitc; simp
theorem opts_len (m : Nat → Nat) : (opts m).length = 10 := by unfold opts; simp
theorem Lk.cs_len (k : Lk) : k.cs.length = 115 := by unfold Lk.cs; rw [List.length_append, List.length_append, fitc_len, opts_len]; rfl
theorem opts_at (m : Nat → Nat) {i : Nat} (h : i < 10) : (opts m)[i]? = some (.int .i64 (m i)) := by unfold opts; simp [h]
theorem fitc_at (f : Nat → Nat → Bool) {i j : Nat} (hi : i < 10) (hj : j < 10) : (fitc f)[10 * i + j]? = some (.bool (f i j)) := by
  unfold fitc
  rw [List.getElem?_map, List.getElem?_range (by omega)]
  simp only [Option.map_some]
  congr 3
  · omega
  · omega
theorem Lk.fit_at (k : Lk) {i j : Nat} (hi : i < 10) (hj : j < 10) : k.cs[5 + (10 * i + j)]? = some (.bool (k.fit i j)) := by
  unfold Lk.cs
  rw [List.getElem?_append_right (by show 5 ≤ _; omega)]
  have : 5 + (10 * i + j) - k.rows.length = 10 * i + j := by show 5 + (10 * i + j) - 5 = _; omega
  rw [this, List.getElem?_append_left (by rw [fitc_len]; omega), fitc_at _ hi hj]
theorem Lk.all_at (k : Lk) {i : Nat} (hi : i < 10) : k.cs[105 + i]? = some (.int .i64 (k.all i)) := by
  unfold Lk.cs
  rw [List.getElem?_append_right (by show 5 ≤ _; omega)]
  have : 105 + i - k.rows.length = 100 + i := by show 105 + i - 5 = _; omega
  rw [this, List.getElem?_append_right (by rw [fitc_len]; omega), fitc_len]
  have : 100 + i - 100 = i := by omega
  rw [this, opts_at _ hi]
theorem Lk.c0 (k : Lk) : k.cs[0]? = some (.slice k.lp k.nL k.lc) := rfl
theorem Lk.c1 (k : Lk) : k.cs[1]? = some (.slice k.rp k.nR k.rc) := rfl
theorem Lk.c2 (k : Lk) : k.cs[2]? = some (.int .i64 k.s) := rfl
theorem Lk.c3 (k : Lk) : k.cs[3]? = some (.int .i64 k.t) := rfl
theorem Lk.c4 (k : Lk) : k.cs[4]? = some (.int .i64 k.h) := rfl
theorem row85 : rowOf Try.prog 85 115 = true := by kernel_rfl
theorem row83 : rowOf Try.prog 83 10 = true := by kernel_rfl
theorem row26 : rowOf Try.prog 26 5 = true := by kernel_rfl
def restV (a b : Nat) (h : Int) : Value := .agg #[.int .i64 a, .int .i64 b, .int .i64 h]
/-- What an iterator over marks is. -/
def marksV (b1 b2 : Nat) : Value := .func (.func 107) #[] #[.pointer (some ⟨b1, 0, none⟩), .pointer (some ⟨b2, 0, none⟩)]
set_option maxHeartbeats 400000 in
theorem marks_ret (many : Int) (f : Fn) (pre caps : Array Value) (w : World) :
    Calls Try.prog 67 #[.int .i64 many, .func f pre caps] w fun e w' => e = .returned (marksV w.heap.size (w.heap.size + 1)) ∧ Box w' w.heap.size [.int .i64 many] 3 ∧ Box w' (w.heap.size + 1) [.func f pre caps] 102 ∧ Below w.heap.size w w' := by
  have HB1 := Lib.hid ((Box.fresh w [.int .i64 many] 3).grow (Gr.alloc _ (Obj.cells #[Value.func f pre caps] 102)))
  have HB2 := Lib.hid (show Box ((w.alloc (Obj.cells #[.int .i64 many] 3)).alloc (Obj.cells #[Value.func f pre caps] 102)) (w.heap.size + 1) [.func f pre caps] 102 by
    have := Box.fresh (w.alloc (Obj.cells #[.int .i64 many] 3)) [.func f pre caps] 102
    simpa using this)
  unfold marksV
  go_enter Try.func67, Try.ntmps67
  go_wp2
  go_ret
  exact ⟨rfl, HB1.out, HB2.out, ((Below.refl _ _).alloc (by first | (simp; done) | (simp; omega) | omega) _).alloc (by first | (simp; done) | (simp; omega) | omega) _⟩
set_option maxHeartbeats 400000 in
theorem behind_hid (a b : Nat) (h : Int) (w : World) (ha : a ≤ 100) (hb : b ≤ 100) (hh : -1000 ≤ h ∧ h ≤ 1000) :
    Calls Try.prog 98 #[restV a b h, .int .i64 (10 : Nat)] w fun e w' => e = .returned (restV (a + 1) b (h - 1)) ∧ Below w.heap.size w w' := by
  unfold restV
  go_enter Try.func98, Try.ntmps98
  go_wp2
  refine bodyPost_ret (v := .agg #[.int .i64 ((a : Int) + 1), .int .i64 (b : Int), .int .i64 (h - 1)]) (by simp [results, Try.results98, go_sem]) rfl ⟨by simp, (((Below.refl _ _).alloc (by first | (simp; done) | (simp; omega) | omega) _).alloc (by first | (simp; done) | (simp; omega) | omega) _)⟩
set_option maxHeartbeats 400000 in
theorem behind_pair (a b o : Nat) (h : Int) (w : World) (ha : a ≤ 100) (hb : b ≤ 100) (ho : o < 10) (hh : -1000 ≤ h ∧ h ≤ 1000) :
    Calls Try.prog 98 #[restV a b h, .int .i64 o] w fun e w' => e = .returned (restV (a + 1) (o + 1) (h - ((o : Int) - b))) ∧ Below w.heap.size w w' := by
  have hne : ((o : Int) == 10) = false := by simp; omega
  unfold restV
  go_enter Try.func98, Try.ntmps98
  go_wp2
  refine bodyPost_ret (v := .agg #[.int .i64 ((a : Int) + 1), .int .i64 ((o : Int) + 1), .int .i64 (h - ((o : Int) - b))]) (by simp [results, Try.results98, go_sem]) rfl ⟨by simp, (((Below.refl _ _).alloc (by first | (simp; done) | (simp; omega) | omega) _).alloc (by first | (simp; done) | (simp; omega) | omega) _)⟩
set_option maxHeartbeats 400000 in
theorem end_any (k : Lk) (a b : Nat) (h : Int) (w : World) (hb : b ≤ 100) (hR : k.nR ≤ 100) :
    Calls Try.prog 97 #[.agg k.cs.toArray, restV a b h] w fun e w' => e = .returned (.int .i64 (if (k.nR : Int) - b > h then 0 else 1 : Nat)) ∧ Below w.heap.size w w' := by
  have hl := k.cs_len
  have e1 : ∀ h : 1 < k.cs.length, k.cs[1] = .slice k.rp k.nR k.rc := fun _ => rfl
  unfold restV
  by_cases hc : (k.nR : Int) - b > h
  · have hd : decide (h < (k.nR : Int) - b) = true := by simpa using hc
    rw [if_pos hc]
    go_enter Try.func97, Try.ntmps97
    go_wp2
    go_ret
    exact ⟨rfl, ((Below.refl _ _).alloc (by first | (simp; done) | (simp; omega) | omega) _).alloc (by first | (simp; done) | (simp; omega) | omega) _⟩
  · have hd : decide (h < (k.nR : Int) - b) = false := by simpa using hc
    rw [if_neg hc]
    go_enter Try.func97, Try.ntmps97
    go_wp2
    go_ret
    exact ⟨rfl, ((Below.refl _ _).alloc (by first | (simp; done) | (simp; omega) | omega) _).alloc (by first | (simp; done) | (simp; omega) | omega) _⟩

end Go.Proofs.Ytjlaoiimbhlafaa
namespace Go.Proofs.Ytjlaoiimbhlafaa
open Go.RowKit Go.Shelf

open MW
/-! The map of what is known: by rests. -/
theorem kt148 : Try.prog.keyTypeAt 3 148 = true := by kernel_rfl
theorem wide148 : (match Try.prog.underlying 148 with | some (.array _ _) | some (.struct _) => true | _ => false) = true := by kernel_rfl
theorem tiled148 : Try.prog.tiled 3 148 = true := by kernel_rfl
def lit1 (x : Int) : Option (List Lit) := if IntKind.i64 = IntKind.i64 ∧ (Lit.int .i64 x).wf = true then some [Lit.int .i64 x] else none
theorem lits148 (n : Nat) (x y z : Int) : Try.prog.keyLits (n + 2) 148 [.int .i64 x, .int .i64 y, .int .i64 z] = (List.mapM lit1 [x, y, z]).map List.flatten := by kernel_rfl
theorem lit1_in {x : Int} (h : -9223372036854775808 ≤ x ∧ x ≤ 9223372036854775807) : lit1 x = some [Lit.int .i64 x] := by
  have e1 : IntKind.i64.min = -9223372036854775808 := by decide
  have e2 : IntKind.i64.max = 9223372036854775807 := by decide
  have : (Lit.int .i64 x).wf = true := by
    simp only [Lit.wf, e1, e2, Bool.and_eq_true, decide_eq_true_eq]
    exact h
  unfold lit1
  rw [if_pos ⟨rfl, this⟩]
/-- The rests that there are. -/
def Rst (a b : Nat) (h : Int) : Prop := a ≤ 100 ∧ b ≤ 100 ∧ -1000 ≤ h ∧ h ≤ 1000
theorem litsOk {a b : Nat} {h : Int} (hr : Rst a b h) (n : Nat) : Try.prog.keyLits (n + 2) 148 (restV a b h).cells.toList = some [Lit.int .i64 a, Lit.int .i64 b, Lit.int .i64 h] := by
  obtain ⟨h1, h2, h3, h4⟩ := hr
  have := lits148 n a b h
  rw [List.mapM_cons, List.mapM_cons, List.mapM_cons, List.mapM_nil, lit1_in (by omega), lit1_in (by omega), lit1_in (by omega)] at this
  exact this
theorem formed148 (a b : Nat) (h : Int) : (Try.prog.keyType 148 && (restV a b h).formed Try.prog 148) = true := by kernel_rfl
theorem key148 {a b : Nat} {h : Int} (hr : Rst a b h) : ∃ l, keyOf Try.prog 148 (restV a b h) = some l := by
  have e : keyOf Try.prog 148 (restV a b h) = if Try.prog.keyType 148 && (restV a b h).formed Try.prog 148 then (Try.prog.keyLits (Try.prog.types.size + 1) 148 (restV a b h).cells.toList).map fun ls => .string (keyBytes ls) else none := by kernel_rfl
  have hs : Try.prog.types.size + 1 = 206 + 2 := by kernel_rfl
  rw [e, if_pos (formed148 a b h), hs, litsOk hr 206]
  exact ⟨_, rfl⟩
theorem restV_inj {a b a' b' : Nat} {h h' : Int} (e : restV a b h = restV a' b' h') : a = a' ∧ b = b' ∧ h = h' := by
  unfold restV at e
  simp only [Value.agg.injEq, Array.mk.injEq, List.cons.injEq, Value.int.injEq, true_and, and_true] at e
  obtain ⟨e1, e2, e3⟩ := e
  exact ⟨by omega, by omega, e3⟩
theorem run_eq148 {a b a' b' : Nat} {h h' : Int} (hr : Rst a b h) (hr' : Rst a' b' h') (w : World) : ∃ r : Bool, (Op.equal 148 (restV a b h) (restV a' b' h')).run Try.prog w = .ok r w ∧ (r = true ↔ restV a b h = restV a' b' h') := by
  obtain ⟨l, hl⟩ := key148 hr
  obtain ⟨l', hl'⟩ := key148 hr'
  obtain ⟨r, hq, hi⟩ := run_equal_deep (P := Try.prog) (m := 3) (k := 148) w (by decide) kt148 (by kernel_rfl) hl hl'
  refine ⟨r, hq, hi.trans ⟨fun e => ?_, fun e => ?_⟩⟩
  · subst e
    exact keyOf_inj_deep (P := Try.prog) (m := 3) (k := 148) tiled148 (by kernel_rfl) hl hl'
  · rw [e] at hl
    rw [hl] at hl'
    exact Option.some.inj hl'
theorem find148 (x : Value) (es : List MapEntry) (w : World) : (Instr.findKey 148 x es).run Try.prog w = (Instr.findAsking 148 x es).run Try.prog w := run_findKey_eq (P := Try.prog) (k := 148) w (by kernel_rfl) x es
theorem run_ask148 {a b : Nat} {h : Int} (hr : Rst a b h) (w : World) : ∀ (es : List MapEntry) (i : Nat), (∀ e ∈ es, ∃ a b h, Rst a b h ∧ e.key = restV a b h) →
    (Instr.findAsking 148 (restV a b h) es i).run Try.prog w = .ok none w ∨
      ∃ j e, (Instr.findAsking 148 (restV a b h) es i).run Try.prog w = .ok (some (i + j, e.val)) w ∧ es[j]? = some e ∧ e.key = restV a b h
  | [], i, _ => .inl (by simp [Instr.findAsking])
  | e :: es, i, hk => by
    obtain ⟨a', b', h', hr', hk'⟩ := hk e (by simp)
    obtain ⟨r, hq, hi⟩ := run_eq148 hr hr' w
    cases r with
    | true =>
      right
      exact ⟨0, e, by simp [Instr.findAsking, hk', hq], rfl, by rw [hk', hi.1 rfl]⟩
    | false =>
      rcases run_ask148 hr w es (i + 1) (fun x hx => hk x (by simp [hx])) with h1 | ⟨j, e', h1, h2, h3⟩
      · left
        simp [Instr.findAsking, hk', hq, h1]
      · right
        exact ⟨j + 1, e', by simp [Instr.findAsking, hk', hq, h1]; omega, by simpa using h2, h3⟩
theorem run_check148 {a b : Nat} {h : Int} (hr : Rst a b h) (em : Bool) (w : World) : (Instr.checkKey em 10000 148 (restV a b h)).run Try.prog w = .ok () w :=
  run_checkKey_deep em 9997 3 148 kt148 w 5 _ _ (by kernel_rfl) (litsOk hr 3)
/-- What is kept of the map: of each rest that it knows, the number of its ways. -/
def Gd (f : Nat → Nat → Int → Nat) (o : Obj) : Prop := ∃ (l : Array MapEntry) (c : Nat), o = .map l c ∧ ∀ e ∈ l.toList, ∃ a b h, Rst a b h ∧ e.key = restV a b h ∧ e.val = .int .i64 (f a b h)
theorem Gd.new (f : Nat → Nat → Int → Nat) : Gd f (.map #[] 0) := ⟨#[], 0, rfl, fun e he => by simp at he⟩
theorem under145 : Try.prog.underlying 145 = some (.map 148 3) := by kernel_rfl
theorem zero3 (w : World) : (zeroValue 3).run Try.prog w = .ok (.int .i64 0) w := by kernel_rfl
theorem run_known {f : Nat → Nat → Int → Nat} {mb : Nat} {w : World} {o : Obj} (hb : w.heap[mb]? = some o) (hG : Gd f o) {a b : Nat} {h : Int} (hr : Rst a b h) :
    (Instr.lookup 145 (.map (some mb)) (restV a b h) true).run Try.prog w = .ok (.tuple #[.int .i64 0, .bool false]) w ∨
    (Instr.lookup 145 (.map (some mb)) (restV a b h) true).run Try.prog w = .ok (.tuple #[.int .i64 (f a b h), .bool true]) w := by
  obtain ⟨l, c, rfl, hl⟩ := hG
  rcases run_ask148 hr w l.toList 0 (fun e he => by obtain ⟨x, y, z, hq, hk, -⟩ := hl e he; exact ⟨x, y, z, hq, hk⟩) with h1 | ⟨j, e, h1, h2, h3⟩
  · left
    simp [Instr.lookup, run_underlying under145, Go.MapKept.run_getObj_map hb, run_check148 hr, find148, h1, zero3, Result.andThen]
  · right
    obtain ⟨x, y, z, hq, hk, hv⟩ := hl e (List.mem_of_getElem? h2)
    rw [hk] at h3
    obtain ⟨rfl, rfl, rfl⟩ := restV_inj h3
    simp [Instr.lookup, run_underlying under145, Go.MapKept.run_getObj_map hb, run_check148 hr, find148, h1, hv, Result.andThen]
theorem same_int (n : Nat) (x : Int) : Instr.sameBits (n + 1) (.int .i64 x) (.int .i64 x) = true := by simp [Instr.sameBits]
theorem keepKey (a b : Nat) (h : Int) (w : World) : (Instr.keyThatStays (restV a b h) (restV a b h)).run Try.prog w = .ok (restV a b h) w := by
  have : Instr.sameBits 10000 (restV a b h) (restV a b h) = true := by simp [restV, Instr.sameBits]
  unfold Instr.keyThatStays
  rw [if_pos this]
  rfl
theorem run_learn {f : Nat → Nat → Int → Nat} {mb : Nat} {w : World} {o : Obj} (hb : w.heap[mb]? = some o) (hG : Gd f o) {a b : Nat} {h : Int} (hr : Rst a b h) :
    ∃ w', (Instr.mapUpdate 145 (.map (some mb)) (restV a b h) (.int .i64 (f a b h))).run Try.prog w = .ok () w' ∧ Dr ⟨mb, Gd f⟩ 0 w w' := by
  obtain ⟨l, c, rfl, hl⟩ := hG
  have hm : mb < w.heap.size := (Array.getElem?_eq_some_iff.1 hb).1
  have key : ∀ (l' : Array MapEntry) (c' : Nat), (∀ e ∈ l'.toList, ∃ a b h, Rst a b h ∧ e.key = restV a b h ∧ e.val = .int .i64 (f a b h)) → Dr ⟨mb, Gd f⟩ 0 w { w with heap := w.heap.setIfInBounds mb (.map l' c') } := fun l' c' h' =>
    ⟨rfl, rfl, rfl, by simp, fun k hk hne => by simp [Array.getElem?_setIfInBounds_ne (Ne.symm hne)], fun o ho hg => ⟨.map l' c', by simp [hm], l', c', rfl, h'⟩⟩
  rcases run_ask148 hr w l.toList 0 (fun e he => by obtain ⟨x, y, z, hq, hk, -⟩ := hl e he; exact ⟨x, y, z, hq, hk⟩) with h1 | ⟨j, e, h1, h2, h3⟩
  · refine ⟨_, ?_, key (l.push { key := restV a b h, val := .int .i64 (f a b h), born := c }) (c + 1) ?_⟩
    · simp [Instr.mapUpdate, run_underlying under145, Go.MapKept.run_getObj_map hb, run_check148 hr, find148, h1, Result.andThen, Go.MapKept.run_setObj_map _ hb]
    · intro e he
      rw [Array.toList_push, List.mem_append] at he
      rcases he with he | he
      · exact hl e he
      · rw [List.mem_singleton.1 he]
        exact ⟨a, b, h, hr, rfl, rfl⟩
  · have hj : l[j]? = some e := by simpa using h2
    refine ⟨_, ?_, key (l.modify j fun e => { e with key := restV a b h, val := .int .i64 (f a b h) }) c ?_⟩
    · simp [Instr.mapUpdate, run_underlying under145, Go.MapKept.run_getObj_map hb, run_check148 hr, find148, h1, hj, h3, keepKey, Result.andThen, Go.MapKept.run_setObj_map _ hb]
    · intro e' he
      obtain ⟨i, hi⟩ := List.mem_iff_getElem?.1 he
      rw [Array.getElem?_toList, Array.getElem?_modify] at hi
      split at hi
      · obtain ⟨e0, h4, h5⟩ := Option.map_eq_some_iff.1 hi
        rw [← h5]
        exact ⟨a, b, h, hr, rfl, rfl⟩
      · exact hl e' (List.mem_of_getElem? (by simpa using hi))
section
variable {ops : Array Oper} {rest : List Oper} {op : Oper} {act : Act} {w : World} {Q : Exit → Act → World → Prop}
theorem wpList_stopUpd {P : Program} {ty : TypeId} {x y z : Operand} (_ : op.op = .mapUpdate ty x y z) (h : Stop (wpList P ops Q (op :: rest) act w)) : wpList P ops Q (op :: rest) act w := h
theorem wpList_learn {m k v : Operand} {f : Nat → Nat → Int → Nat} {mb a b : Nat} {h : Int} {o : Obj} (hb : w.heap[mb]? = some o) (hG : Gd f o) (hr : Rst a b h)
    (ho : op.op = .mapUpdate 145 m k v) (hgd : op.guard = none) (hm : act.eval m = .map (some mb)) (hk : act.eval k = restV a b h) (hv : act.eval v = .int .i64 (f a b h))
    (hK : ∀ w', Dr ⟨mb, Gd f⟩ 0 w w' → wpList Try.prog ops Q rest (act.put op.dst undef) w') : wpList Try.prog ops Q (op :: rest) act w := by
  refine wpList_plain hgd fun K hQ => ?_
  obtain ⟨w', h1, h2⟩ := run_learn hb hG hr
  unfold Oper.wp execOp
  simp only [ho, hm, hk, hv, Sem.run_bind, h1, Result.andThen_ok, Sem.run_pure]
  exact hQ _ _ (hK w' h2)
end

end Go.Proofs.Ytjlaoiimbhlafaa
namespace Go.Proofs.Ytjlaoiimbhlafaa
open Go.RowKit Go.Shelf

open MW
theorem sum_if {α : Type} (p : α → Bool) (f : α → Nat) : ∀ l : List α, (l.map fun x => if p x then f x else 0).sum = ((l.filter p).map f).sum
  | [] => rfl
  | x :: l => by
    rw [List.map_cons, List.sum_cons, sum_if p f l, List.filter_cons]
    split <;> simp
/-- What one option of the first left mark adds. -/
def trm (o : Nat → Nat → Bool) (nL nR a b : Nat) (h : Int) (k : Nat) : Nat :=
  if b ≤ k then (if k = 10 then cw o nR (lf (a + 1) nL) b (h - 1) else cw o nR (lf (a + 1) nL) (k + 1) (h - ((k : Int) - b))) else 0
theorem cw_step {o : Nat → Nat → Bool} {nL nR a b : Nat} {h : Int} (ha : a < nL) (hh : 0 ≤ h) (hb : b ≤ 10) (hR : nR ≤ 10) (ho : ∀ j, nR ≤ j → j < 10 → o a j = false) :
    cw o nR (lf a nL) b h = ((wts 11 (o a)).map (trm o nL nR a b h)).sum := by
  rw [lf_cons ha]
  unfold cw
  rw [if_neg (by omega)]
  have e1 : wts 11 (o a) = wts 10 (o a) ++ if o a 10 then [10] else [] := wts_succ 10 _
  have e2 : wts 10 (o a) = wts nR (o a) := by
    unfold wts
    have e : List.range 10 = List.range nR ++ lf nR 10 := by
      unfold lf
      rw [List.range_eq_range', List.range_eq_range']
      have := List.range'_append_1 (s := 0) (m := nR) (n := 10 - nR)
      rw [Nat.zero_add, show nR + (10 - nR) = 10 by omega] at this
      exact this.symm
    rw [e, List.filter_append]
    have : (lf nR 10).filter (o a) = [] := by
      rw [List.filter_eq_nil_iff]
      intro j hj
      have := mem_lf.1 hj
      rw [ho j this.1 this.2]
      simp
    rw [this, List.append_nil]
  rw [e1, e2, List.map_append, List.sum_append]
  congr 1
  · have e3 : (wts nR (o a)).map (trm o nL nR a b h) = (wts nR (o a)).map fun k => if decide (b ≤ k) then cw o nR (lf (a + 1) nL) (k + 1) (h - ((k : Int) - b)) else 0 := by
      refine List.map_congr_left fun k hk => ?_
      have hk' : k < nR := List.mem_range.1 (List.mem_filter.1 hk).1
      unfold trm
      rw [if_neg (show ¬ k = 10 by omega)]
      simp
    rw [e3, sum_if]
    unfold wts
    rw [List.filter_filter]
  · cases h10 : o a 10 with
    | true => simp [trm, hb]
    | false => simp
theorem pow11_le {n : Nat} (h : n ≤ 10) : 11 ^ n ≤ 11 ^ 10 := Nat.pow_le_pow_right (by omega) h
theorem cw_small (o : Nat → Nat → Bool) {nL nR : Nat} (a b : Nat) (h : Int) (hL : nL ≤ 10) (hR : nR ≤ 10) : cw o nR (lf a nL) b h ≤ 25937424601 := by
  refine Nat.le_trans (cw_le o nR (lf a nL) b h) ?_
  have h1 : (nR + 1) ^ (lf a nL).length ≤ 11 ^ (lf a nL).length := Nat.pow_le_pow_left (by omega) _
  have h2 : 11 ^ (lf a nL).length ≤ 11 ^ 10 := pow11_le (by rw [lf_len]; omega)
  exact Nat.le_trans h1 (Nat.le_trans h2 (by decide))
theorem trm_small (o : Nat → Nat → Bool) {nL nR : Nat} (a b : Nat) (h : Int) (k : Nat) (hL : nL ≤ 10) (hR : nR ≤ 10) : trm o nL nR a b h k ≤ 25937424601 := by
  unfold trm
  split
  · split <;> exact cw_small _ _ _ _ hL hR
  · omega
theorem sum_small (f : Nat → Nat) (B : Nat) (hf : ∀ k, f k ≤ B) : ∀ l : List Nat, (l.map f).sum ≤ l.length * B
  | [] => by simp
  | k :: l => by
    rw [List.map_cons, List.sum_cons, List.length_cons, Nat.succ_mul]
    have := sum_small f B hf l
    have := hf k
    omega
/-! What lies about the counting. -/
def ptr (b : Nat) : Value := .pointer (some ⟨b, 0, none⟩)
def countV (bl bk bo bc : Nat) : Value := .func (.func 96) #[] #[.pointer (some ⟨bl, 0, none⟩), .pointer (some ⟨bk, 0, none⟩), .pointer (some ⟨bo, 0, none⟩), .pointer (some ⟨bc, 0, none⟩)]
/-- How many ways of a rest. -/
def Lk.wy (k : Lk) (m : Nat → Nat) (a b : Nat) (h : Int) : Nat := cw (fun i j => (m i).testBit j) k.nR (lf a k.nL) b h
structure Cnt where
  k : Lk
  m : Nat → Nat
  bl : Nat
  bk : Nat
  bo : Nat
  bc : Nat
  mb : Nat
def Cnt.A (c : Cnt) : Mk := ⟨c.mb, Gd (c.k.wy c.m)⟩
structure Cnt.At (c : Cnt) (W : World) : Prop where
  l : Box W c.bl c.k.cs 85
  kn : Box W c.bk [.map (some c.mb)] 145
  o : Box W c.bo (opts c.m) 83
  f : Box W c.bc [countV c.bl c.bk c.bo c.bc] 146
  g : ∃ o, W.heap[c.mb]? = some o ∧ Gd (c.k.wy c.m) o
theorem box_ne_map {W : World} {b mb : Nat} {vs : List Value} {T : TypeId} (h : Box W b vs T) {f : Nat → Nat → Int → Nat} (hg : ∃ o, W.heap[mb]? = some o ∧ Gd f o) : b ≠ mb := fun e => by
  subst e
  obtain ⟨o, h1, l, c, rfl, -⟩ := hg
  rw [show W.heap[b]? = _ from h] at h1
  cases h1
theorem Cnt.At.dr {c : Cnt} {W W' : World} {i : Nat} (h : c.At W) (hd : Dr c.A i W W') : c.At W' :=
  ⟨hd.box h.l (box_ne_map h.l h.g), hd.box h.kn (box_ne_map h.kn h.g), hd.box h.o (box_ne_map h.o h.g), hd.box h.f (box_ne_map h.f h.g), by
    obtain ⟨o, h1, h2⟩ := h.g
    exact hd.kept o h1 h2⟩
theorem Cnt.At.gr {c : Cnt} {W W' : World} (h : c.At W) (hg : Gr W W') : c.At W' := h.dr (i := 0) (Dr.of hg)
theorem Dr.own {A : Mk} {w W W' : World} {row : Option Nat} {B : Nat} (h : Dr A 0 w W) (hB : w.heap.size ≤ B) (hA : A.b < B) (hg : W.grownBy W' row) (hr : ∀ r, row = some r → B ≤ r ∧ ∃ o : Obj, W.heap[r]? = some o ∧ o.isCells = false) : Dr A 0 w W' :=
  ⟨hg.os.trans h.os, hg.tape.trans h.tape, hg.output.trans h.output, Nat.le_trans h.size hg.size, fun k hk hne => (hg.block k (Nat.lt_of_lt_of_le hk h.size) (fun e => by have := (hr k e.symm).1; omega)).trans (h.block k hk hne), fun o ho hgo => by
    obtain ⟨o', h1, h2⟩ := h.kept o ho hgo
    exact ⟨o', (hg.block _ (Array.getElem?_eq_some_iff.1 h1).1 (fun e => by have := (hr _ e.symm).1; omega)).trans h1, h2⟩⟩
theorem Cnt.At.own {c : Cnt} {W W' : World} {row : Option Nat} {B : Nat} (h : c.At W) (hB : c.mb < B) (hg : W.grownBy W' row) (hr : ∀ r, row = some r → B ≤ r ∧ ∃ o : Obj, W.heap[r]? = some o ∧ o.isCells = false) : c.At W' :=
  ⟨h.l.own' hg fun r e => (hr r e).2, h.kn.own' hg fun r e => (hr r e).2, h.o.own' hg fun r e => (hr r e).2, h.f.own' hg fun r e => (hr r e).2, by
    obtain ⟨o, h1, h2⟩ := h.g
    exact ⟨o, (hg.block _ (Array.getElem?_eq_some_iff.1 h1).1 (fun e => by have := (hr _ e.symm).1; omega)).trans h1, h2⟩⟩
theorem Dr.from {A : Mk} {W W' : World} {i B : Nat} (h : Dr A i W W') (hA : A.b < B) : KeepsFrom B W W' := ⟨h.size, fun k o hk ho _ => (h.block k (Array.getElem?_eq_some_iff.1 ho).1 (by omega)).trans ho⟩

end Go.Proofs.Ytjlaoiimbhlafaa
section
namespace Go.Proofs.Ytjlaoiimbhlafaa
open Go.RowKit Go.Shelf

open MW
attribute [local go_sem] Oper.semAt_some
set_option maxHeartbeats 1000000 in
theorem count1_end (c : Cnt) (hm : ∀ i, c.m i < 2048) (hmR : ∀ i, i < c.k.nL → ∀ j, c.k.nR ≤ j → j < 10 → (c.m i).testBit j = false) (hL : c.k.nL ≤ 10) (hR : c.k.nR ≤ 10) (a b : Nat) (h : Int) (w : World) (ha : a = c.k.nL) (hb : b ≤ c.k.nR) (hA : c.At w) :
    Calls Try.prog 96 #[restV a b h, .pointer (some ⟨c.bl, 0, none⟩), .pointer (some ⟨c.bk, 0, none⟩), .pointer (some ⟨c.bo, 0, none⟩), .pointer (some ⟨c.bc, 0, none⟩)] w fun e w' => e = .returned (.int .i64 (c.k.wy c.m a b h)) ∧ Dr c.A 0 w w' := by
  have HA := Lib.hid hA
  have hwy : c.k.wy c.m a b h = if (c.k.nR : Int) - b > h then 0 else 1 := by
    unfold Lk.wy
    rw [lf_nil (by omega)]
    rfl
  have HW := Lib.hid hwy
  have HE := Lib.hid (fun W => end_any c.k a b h W (by omega) (by omega))
  generalize (if (c.k.nR : Int) - b > h then 0 else 1) = x at *
  have c0 := HA.out.l.cell (i := 0) c.k.c0
  have cl := HA.out.l.lt
  have hq : ((a : Int) == (c.k.nL : Int)) = true := by simp; omega
  unfold restV at *
  clear hA hwy hm hmR ha
  go_enter Try.func96, Try.ntmps96
  go_wp2_with (first | (with_reducible refine wpList_stopLoad (ty := 85) rfl ?_; unfold Stop; refine wpList_loadBox row85 c.k.cs_len (HA.out.l.grow (Gr.alloc _ _)) rfl rfl rfl ?_) | (go_at_call 97; refine (HE.out _).mono ?_; rintro e w1 ⟨rfl, hb1⟩))
  go_ret
  exact ⟨by rw [HW.out]; rfl, Dr.of ((Gr.alloc _ _).tr hb1)⟩
set_option maxHeartbeats 1000000 in
theorem count1_known (c : Cnt) (hm : ∀ i, c.m i < 2048) (hmR : ∀ i, i < c.k.nL → ∀ j, c.k.nR ≤ j → j < 10 → (c.m i).testBit j = false) (hL : c.k.nL ≤ 10) (hR : c.k.nR ≤ 10) (a b : Nat) (h : Int) (w : World) (ha : a < c.k.nL) (hA : c.At w)
    (hlk : (Instr.lookup 145 (.map (some c.mb)) (restV a b h) true).run Try.prog (w.alloc (.cells #[.int .i64 a, .int .i64 b, .int .i64 h] 148)) = .ok (.tuple #[.int .i64 (c.k.wy c.m a b h), .bool true]) (w.alloc (.cells #[.int .i64 a, .int .i64 b, .int .i64 h] 148))) :
    Calls Try.prog 96 #[restV a b h, .pointer (some ⟨c.bl, 0, none⟩), .pointer (some ⟨c.bk, 0, none⟩), .pointer (some ⟨c.bo, 0, none⟩), .pointer (some ⟨c.bc, 0, none⟩)] w fun e w' => e = .returned (.int .i64 (c.k.wy c.m a b h)) ∧ Dr c.A 0 w w' := by
  have HA := Lib.hid hA
  have c0 := HA.out.l.cell (i := 0) c.k.c0
  have cl := HA.out.l.lt
  have k0 := HA.out.kn.cell (i := 0) rfl
  have kl := HA.out.kn.lt
  have hq : ((a : Int) == (c.k.nL : Int)) = false := by simp; omega
  generalize c.k.wy c.m a b h = wy at *
  unfold restV at *
  clear hA hm hmR ha
  go_enter Try.func96, Try.ntmps96
  go_wp2_with fail
  go_ret
  exact ⟨rfl, Dr.of ((Gr.alloc _ _).tr (Gr.alloc _ _))⟩
set_option maxHeartbeats 1000000 in
theorem count1_neg (c : Cnt) (hm : ∀ i, c.m i < 2048) (hmR : ∀ i, i < c.k.nL → ∀ j, c.k.nR ≤ j → j < 10 → (c.m i).testBit j = false) (hL : c.k.nL ≤ 10) (hR : c.k.nR ≤ 10) (a b : Nat) (h : Int) (w : World) (ha : a < c.k.nL) (hh : h < 0) (hA : c.At w)
    (hlk : (Instr.lookup 145 (.map (some c.mb)) (restV a b h) true).run Try.prog (w.alloc (.cells #[.int .i64 a, .int .i64 b, .int .i64 h] 148)) = .ok (.tuple #[.int .i64 0, .bool false]) (w.alloc (.cells #[.int .i64 a, .int .i64 b, .int .i64 h] 148))) :
    Calls Try.prog 96 #[restV a b h, .pointer (some ⟨c.bl, 0, none⟩), .pointer (some ⟨c.bk, 0, none⟩), .pointer (some ⟨c.bo, 0, none⟩), .pointer (some ⟨c.bc, 0, none⟩)] w fun e w' => e = .returned (.int .i64 (c.k.wy c.m a b h)) ∧ Dr c.A 0 w w' := by
  have HA := Lib.hid hA
  have hwy : c.k.wy c.m a b h = 0 := by
    unfold Lk.wy
    rw [lf_cons ha]
    unfold cw
    rw [if_pos hh]
  have HW := Lib.hid hwy
  have c0 := HA.out.l.cell (i := 0) c.k.c0
  have cl := HA.out.l.lt
  have k0 := HA.out.kn.cell (i := 0) rfl
  have kl := HA.out.kn.lt
  have hq : ((a : Int) == (c.k.nL : Int)) = false := by simp; omega
  have hd : decide (h < 0) = true := by simpa using hh
  unfold restV at *
  clear hA hm hmR ha hwy hh
  go_enter Try.func96, Try.ntmps96
  go_wp2_with fail
  go_ret
  exact ⟨by rw [HW.out]; rfl, Dr.of ((Gr.alloc _ _).tr (Gr.alloc _ _))⟩

end Go.Proofs.Ytjlaoiimbhlafaa
end
section
namespace Go.Proofs.Ytjlaoiimbhlafaa
open Go.RowKit Go.Shelf

open MW
attribute [local go_sem] Oper.semAt_some
/-- The sum behind some options. -/
def Lk.ps (k : Lk) (m : Nat → Nat) (a b : Nat) (h : Int) (l : List Nat) : Nat := (l.map (trm (fun i j => (m i).testBit j) k.nL k.nR a b h)).sum
theorem Lk.ps_snoc (k : Lk) (m : Nat → Nat) (a b : Nat) (h : Int) (l : List Nat) (x : Nat) : k.ps m a b h (l ++ [x]) = k.ps m a b h l + trm (fun i j => (m i).testBit j) k.nL k.nR a b h x := by
  unfold Lk.ps
  simp
theorem Lk.ps_small (k : Lk) (m : Nat → Nat) (a b : Nat) (h : Int) (l : List Nat) (hL : k.nL ≤ 10) (hR : k.nR ≤ 10) (hl : l.length ≤ 1000) : k.ps m a b h l ≤ 25937424601000 := by
  have h1 := sum_small (trm (fun i j => (m i).testBit j) k.nL k.nR a b h) 25937424601 (fun j => trm_small _ a b h j hL hR) l
  have h2 := Nat.mul_le_mul_right 25937424601 hl
  unfold Lk.ps
  omega
theorem Dr.keepAt {A : Mk} {i : Nat} {W W' : World} {S : List Nat} (h : Dr A i W W') (hA : A.b ∉ S) : KeepAt S W W' := ⟨h.size, fun k hk hl => h.block k hl (fun e => hA (e ▸ hk))⟩
theorem Dr.only {A : Mk} {i b : Nat} {w W W' : World} (h : Dr A i w W) (ho : Only b W W') (hb : w.heap.size ≤ b ∧ b ≠ A.b) : Dr A i w W' :=
  ⟨ho.low.os.trans h.os, ho.low.tape.trans h.tape, ho.low.output.trans h.output, Nat.le_trans h.size ho.size, fun k hk hne => (ho.keep k (by omega) (Nat.lt_of_lt_of_le hk h.size)).trans (h.block k hk hne), fun o h1 h2 => by
    obtain ⟨o', h3, h4⟩ := h.kept o h1 h2
    exact ⟨o', (ho.keep _ (Ne.symm hb.2) (Array.getElem?_eq_some_iff.1 h3).1).trans h3, h4⟩⟩
theorem Cnt.At.only {c : Cnt} {W W' : World} {b : Nat} (h : c.At W) (ho : Only b W W') (h1 : c.bl ≠ b) (h2 : c.bk ≠ b) (h3 : c.bo ≠ b) (h4 : c.bc ≠ b) (h5 : c.mb ≠ b) : c.At W' :=
  ⟨ho.box h.l h1, ho.box h.kn h2, ho.box h.o h3, ho.box h.f h4, by
    obtain ⟨o, h6, h7⟩ := h.g
    exact ⟨o, (ho.keep _ h5 (Array.getElem?_eq_some_iff.1 h6).1).trans h6, h7⟩⟩
def CtI (c : Cnt) (a b : Nat) (h : Int) (w : World) (f : Nat → Bool) (pre : List (Wt 11 f)) (W : World) : Prop :=
  c.At W ∧ Box W w.heap.size [.int .i64 a, .int .i64 b, .int .i64 h] 148 ∧ Box W (w.heap.size + 1) [.int .i64 (c.k.ps c.m a b h (pre.map Wt.v))] 3 ∧ Dr c.A 0 w W
theorem CtI.own (c : Cnt) (a b : Nat) (h : Int) (w : World) (f : Nat → Bool) {B : Nat} (hB : w.heap.size ≤ B) (hmb : c.mb < w.heap.size) : OwnFrom B (CtI c a b h w f) := fun s A A' row ⟨h1, h2, h3, h4⟩ hg hr =>
  ⟨h1.own (by omega) hg hr, h2.own' hg fun r e => (hr r e).2, h3.own' hg fun r e => (hr r e).2, h4.own hB (show c.mb < B by omega) hg hr⟩
def CtA (c : Cnt) (a b : Nat) (h : Int) (w : World) {f : Nat → Bool} (x : Wt 11 f) (a' : Act) (W : World) : Prop :=
  a' = { tmps := #[.agg #[.int .i64 a, .int .i64 b, .int .i64 h], .pointer (some ⟨c.bl, 0, none⟩), .pointer (some ⟨c.bk, 0, none⟩), .pointer (some ⟨c.bo, 0, none⟩), .pointer (some ⟨c.bc, 0, none⟩), .pointer (some ⟨w.heap.size, 0, none⟩), .int .i64 0, .pointer (some ⟨w.heap.size + 1, 0, none⟩), .bool false, .int .i64 x.v, .pointer (some ⟨w.heap.size, 0, none⟩), .int .i64 a, .pointer (some ⟨c.bl, 0, none⟩), .pointer (some ⟨c.bl, 0, none⟩), .slice c.k.lp c.k.nL c.k.lc, .int .i64 c.k.nL, .bool false, undef, undef, undef, .tuple #[.int .i64 0, .bool false], .map (some c.mb), .agg #[.int .i64 a, .int .i64 b, .int .i64 h], .tuple #[.int .i64 0, .bool false], .int .i64 0, .bool false, .bool false, .bool false, .pointer (some ⟨w.heap.size, 2, none⟩), .int .i64 h, .bool false, .bool false, undef, .pointer (some ⟨w.heap.size, 0, none⟩), .int .i64 a, .pointer (some ⟨c.bo, a, none⟩), .int .i64 (c.m a), .func (.func 68) #[.int .i64 (c.m a)] #[], marksV (w.heap.size + 1 + 1) (w.heap.size + 1 + 1 + 1), .int .i64 x.v, undef, undef, undef, undef, undef, undef, undef, undef, undef, undef, undef, undef, undef, undef, undef], defers := [] }
theorem Cnt.At.mbl {c : Cnt} {W : World} (h : c.At W) : c.mb < W.heap.size := by
  obtain ⟨o, h1, -⟩ := h.g
  exact (Array.getElem?_eq_some_iff.1 h1).1
set_option maxRecDepth 100000 in
set_option maxHeartbeats 4000000 in
theorem count1_more (c : Cnt) (hm : ∀ i, c.m i < 2048) (hmR : ∀ i, i < c.k.nL → ∀ j, c.k.nR ≤ j → j < 10 → (c.m i).testBit j = false) (hL : c.k.nL ≤ 10) (hR : c.k.nR ≤ 10) (a b : Nat) (h : Int) (w : World) (ha : a < c.k.nL) (hb : b ≤ c.k.nR) (hh : 0 ≤ h ∧ h ≤ 20) (hA : c.At w)
    (IH : ∀ (b' : Nat) (h' : Int) (W : World), b' ≤ c.k.nR → -20 ≤ h' → h' ≤ 20 → c.At W → Calls Try.prog 96 #[restV (a + 1) b' h', .pointer (some ⟨c.bl, 0, none⟩), .pointer (some ⟨c.bk, 0, none⟩), .pointer (some ⟨c.bo, 0, none⟩), .pointer (some ⟨c.bc, 0, none⟩)] W fun e w' => e = .returned (.int .i64 (c.k.wy c.m (a + 1) b' h')) ∧ Dr c.A 0 W w')
    (hlk : (Instr.lookup 145 (.map (some c.mb)) (restV a b h) true).run Try.prog (w.alloc (.cells #[.int .i64 a, .int .i64 b, .int .i64 h] 148)) = .ok (.tuple #[.int .i64 0, .bool false]) (w.alloc (.cells #[.int .i64 a, .int .i64 b, .int .i64 h] 148))) :
    Calls Try.prog 96 #[restV a b h, .pointer (some ⟨c.bl, 0, none⟩), .pointer (some ⟨c.bk, 0, none⟩), .pointer (some ⟨c.bo, 0, none⟩), .pointer (some ⟨c.bc, 0, none⟩)] w fun e w' => e = .returned (.int .i64 (c.k.wy c.m a b h)) ∧ Dr c.A 0 w w' := by
  have HA := Lib.hid hA
  have HIH := Lib.hid IH
  have hmb := hA.mbl
  have c0 := HA.out.l.cell (i := 0) c.k.c0
  have cl := HA.out.l.lt
  have k0 := HA.out.kn.cell (i := 0) rfl
  have kl := HA.out.kn.lt
  have hq : ((a : Int) == (c.k.nL : Int)) = false := by simp; omega
  have hd : decide (h < 0) = false := by simpa using hh.1
  have o0 := HA.out.o.cell (i := a) (opts_at c.m (show a < 10 by omega))
  have ol := HA.out.o.lt
  have fl := HA.out.f.lt
  have HMA := Lib.hid (hm a)
  have HMR := Lib.hid (hmR a ha)
  have h10 : decide ((a : Int) < 10) = true := by simp; omega
  have h10' : decide ((a : Nat) < 10) = true := by simp; omega
  have HRT := Lib.hid (fun W => marks_ret 11 (.func 68) #[.int .i64 (c.m a)] #[] W)
  have HSUM := Lib.hid (show c.k.wy c.m a b h = c.k.ps c.m a b h (wts 11 fun j => (c.m a).testBit j) from cw_step ha hh.1 (by omega) hR (hmR a ha))
  unfold restV at hlk
  clear hA hm hmR IH
  unfold restV
  refine (callsIn_wide (n := 9)).1 ?_
  refine callsIn_of_wp_marks Try.func96 rfl trivial ?_ rfl
  simp only [Try.ntmps96, List.size_toArray, List.length_cons, List.length_nil, Nat.reduceAdd, Nat.reduceSub, Array.replicate_succ, Array.replicate_zero, List.push_toArray, List.append_toArray, List.nil_append, List.cons_append]
  refine wpIn_wide.2 ?_
  go_wp2_with (go_at_call 67; refine (HRT.out _).mono ?_; rintro e w1 ⟨rfl, hm1, hm2, hb1⟩)
  have hG1 : Gr w w1 := ((Gr.alloc _ _).tr (Gr.alloc _ _)).tr hb1
  have hR5 : Box w1 w.heap.size [.int .i64 a, .int .i64 b, .int .i64 h] 148 := ((Box.fresh w [.int .i64 a, .int .i64 b, .int .i64 h] 148).grow (Gr.alloc _ _)).grow hb1
  have hR7 : Box w1 (w.heap.size + 1) [.int .i64 0] 3 := by
    have := (Box.fresh (w.alloc (Obj.cells #[.int .i64 a, .int .i64 b, .int .i64 h] 148)) [.int .i64 0] 3).grow hb1
    simpa using this
  replace hm1 : Box w1 (w.heap.size + 1 + 1) [.int .i64 ((11 : Nat) : Int)] 3 := by simpa using hm1
  replace hm2 : Box w1 (w.heap.size + 1 + 1 + 1) [.func (.func 68) #[.int .i64 (c.m a)] #[]] 102 := by simpa using hm2
  have hw1 : w.heap.size + 1 + 1 + 1 < w1.heap.size := hm2.lt
  have HG1 := Lib.hid hG1
  have HR5 := Lib.hid hR5
  have HR7 := Lib.hid hR7
  have HM1 := Lib.hid hm1
  have HM2 := Lib.hid hm2
  clear hG1 hR5 hR7 hm1 hm2 hb1 hlk c0 k0 o0
  refine (wpIn_wide (n := 9)).1 ?_
  refine wpIn_rangeOwn rfl (by omega) (gf := 107) (lb := #[.pointer (some ⟨w.heap.size + 1 + 1, 0, none⟩), .pointer (some ⟨w.heap.size + 1 + 1 + 1, 0, none⟩)]) rfl trivial (enters_of Try.func107 (by kernel_rfl) rfl)
    (SeqStopsK.own (marksH_stops (c.m a) 11 (fun j => (c.m a).testBit j) [] (w.heap.size + 1 + 1) (w.heap.size + 1 + 1 + 1) _ w1 (by omega) (fun W' _ k hk => has_any (c.m a) k W' HMA.out (by omega)) HM1.out HM2.out)) (Gr.same _) KeepAt.trans
    (fun W o' => KeepAt.putObj W _ o' (by simp; omega)) (fun _ => rfl)
    (CtI c a b h w _) (fun _ _ _ => False) (CtI.own c a b h w _ (by omega) hmb) (fun _ _ _ _ _ hs _ _ => hs) ⟨HA.out.gr HG1.out, HR5.out, HR7.out, Dr.of HG1.out⟩
    (CtA c a b h w) (fun x a' => fun _ _ _ _ h _ _ => h) ?assign ?body ?done ?stop
  case assign =>
    intro y pre x W K hi hK
    have HI := Lib.hid hi
    clear hi
    unfold encW
    gi_wp2
    exact hK _ _ (KeepsOthers.refl _ |>.from _) (KeepAt.refl _ _) HI.out rfl
  case body =>
    rintro y pre x a' W hyl - hI rfl hN
    obtain ⟨hAt, h5, h7, hDr⟩ := hI
    have HAt := Lib.hid hAt
    have H5 := Lib.hid h5
    have H7 := Lib.hid h7
    have HDr := Lib.hid hDr
    have x1 := h5.cell (i := 1) rfl
    have xl := h5.lt
    have hx11 := x.lt
    have HXI := Lib.hid x.is
    have hn5 := box_ne_map h5 hAt.g
    have hn7 := box_ne_map h7 hAt.g
    have HPS := Lib.hid (c.k.ps_snoc c.m a b h (pre.map Wt.v) x.v)
    have hps := c.k.ps_small c.m a b h (pre.map Wt.v) hL hR (by rw [List.length_map]; omega)
    have hmp : (pre ++ [x]).map Wt.v = pre.map Wt.v ++ [x.v] := by simp
    rw [← hmp] at HPS
    have HTR := Lib.hid (trm_small (fun i j => (c.m i).testBit j) a b h x.v hL hR)
    clear hAt h5 h7 hDr hmp
    generalize c.k.ps c.m a b h (pre.map Wt.v) = s0 at *
    by_cases hbx : b ≤ x.v
    · have hge : decide ((b : Int) ≤ (x.v : Int)) = true := by simp; omega
      have hB : ∃ (b' : Nat) (h' : Int), b' ≤ c.k.nR ∧ -20 ≤ h' ∧ h' ≤ 20 ∧ (∀ W, Calls Try.prog 98 #[.agg #[.int .i64 a, .int .i64 b, .int .i64 h], .int .i64 x.v] W fun e w' => e = .returned (restV (a + 1) b' h') ∧ Below W.heap.size W w') ∧ trm (fun i j => (c.m i).testBit j) c.k.nL c.k.nR a b h x.v = c.k.wy c.m (a + 1) b' h' := by
        by_cases hx : x.v = 10
        · refine ⟨b, h - 1, hb, by omega, by omega, fun W => ?_, ?_⟩
          · rw [hx]
            exact behind_hid a b h W (by omega) (by omega) (by omega)
          · unfold trm Lk.wy
            rw [if_pos hbx, if_pos hx]
        · have hxR : x.v < c.k.nR := by
            by_cases hc : x.v < c.k.nR
            · exact hc
            · have h1 := HMR.out x.v (by omega) (by omega)
              have h2 : (c.m a).testBit x.v = true := HXI.out
              rw [h1] at h2
              cases h2
          refine ⟨x.v + 1, h - ((x.v : Int) - b), by omega, by omega, by omega, fun W => ?_, ?_⟩
          · exact behind_pair a b x.v h W (by omega) (by omega) (by omega) (by omega)
          · unfold trm Lk.wy
            rw [if_pos hbx, if_neg hx]
      obtain ⟨b', h', hb', hh1, hh2, hBe, htr⟩ := hB
      have HBE := Lib.hid hBe
      have HT := Lib.hid htr
      have hv : c.k.wy c.m (a + 1) b' h' ≤ 25937424601 := by rw [← htr]; exact HTR.out
      have HN5 := Lib.hid hn5
      have HN7 := Lib.hid hn7
      have HCC := Lib.hid (fun W hW => HIH.out b' h' W hb' hh1 hh2 hW)
      clear hBe htr hn5 hn7
      generalize c.k.wy c.m (a + 1) b' h' = v at *
      gi_wp2_with fail
      refine Dw.region2_in (A := c.A) (κ := 0) 7 ?_ ?_ ?_ ?_ ?_
      · kernel_rfl
      · kernel_rfl
      · kernel_rfl
      · rintro ⟨_, _, h⟩; exact h
      simp only [List.take_succ_cons, List.take_zero, List.drop_succ_cons, List.drop_zero]
      apply Dw.chain_eq (D := [(7, none)]) rfl (by kernel_rfl)
      · intro ρ W4 ⟨p1, p2, p3⟩ hG hF K hK; (try simp [FactsD] at hF); have hD := (Dr.drew c.A _).tr hG; have z0 := (hD.box H7.out HN7.out).cell (i := 0) rfl; go_simp; exact hK _ (Dw.gives_val)
      apply Dw.chain_eq (D := [(4, none)]) rfl (by kernel_rfl)
      · intro ρ W4 ⟨p1, p2, p3⟩ hG hF K hK; (try simp [FactsD] at hF); have hD := (Dr.drew c.A _).tr hG; have z0 := (HAt.out.dr hD).f.cell (i := 0) rfl; go_simp; exact hK _ (Dw.gives_val)
      apply Dw.chain_eq (D := [(5, none)]) rfl (by kernel_rfl)
      · intro ρ W4 ⟨p1, p2, p3⟩ hG hF K hK; (try simp [FactsD] at hF); have hD := (Dr.drew c.A _).tr hG; have zb := hD.box H5.out HN5.out; have z0 := zb.cell (i := 0) rfl; have z1 := zb.cell (i := 1) rfl; have z2 := zb.cell (i := 2) rfl; go_simp; exact hK _ (Dw.gives_val)
      apply Dw.chain_eq (D := [(9, none)]) rfl (by kernel_rfl)
      · intro ρ W4 ⟨p1, p2, p3⟩ hG hF K hK; (try simp [FactsD] at hF); have hD := (Dr.drew c.A _).tr hG; go_simp; exact hK _ (Dw.gives_val)
      apply Dw.chain_eq (D := [(46, some 1), (47, some 0)]) rfl (by kernel_rfl)
      · intro ρ W4 ⟨p1, p2, p3⟩ hG hF K hK; (try simp [FactsD] at hF); have hD := (Dr.drew c.A _).tr hG; go_simp; exact hK _ (Dw.gives_gr (HBE.out _))
      apply Dw.chain_eq (D := [(45, some 3), (48, some 0)]) rfl (by kernel_rfl)
      · intro ρ W4 ⟨p1, p2, p3⟩ hG hF K hK; (try simp [FactsD] at hF); have hD := (Dr.drew c.A _).tr hG; go_simp; exact hK _ (Dw.gives_call (HCC.out _ (HAt.out.dr hD)))
      apply Dw.chain_eq (D := [(44, some 5), (49, some 0)]) rfl (by kernel_rfl)
      · intro ρ W4 ⟨p1, p2, p3⟩ hG hF K hK; (try simp [FactsD] at hF); have hD := (Dr.drew c.A _).tr hG; go_simp; exact hK _ (Dw.gives_val)
      refine Dw.chain_done ?_
      intro vs W4 hG hV
      obtain ⟨e6, -, -, -, -, -, -, -⟩ := hV
      simp only [Nat.reduceSub] at e6
      simp only [lay, Act.put, List.getElem?_toArray, List.getElem?_cons_succ, List.getElem?_cons_zero, Option.bind_some, List.setIfInBounds_toArray, List.set_cons_succ, List.set_cons_zero]
      generalize vs 0 = v0
      generalize vs 1 = v1
      generalize vs 2 = v2
      generalize vs 3 = v3
      generalize vs 4 = v4
      generalize vs 5 = v5
      generalize vs 6 = v6 at *
      subst e6
      have HD := Lib.hid (show Dr c.A 0 W W4 from hG.any)
      clear hG
      have H7' := Lib.hid (HD.out.box H7.out HN7.out)
      have H5' := Lib.hid (HD.out.box H5.out HN5.out)
      have HA' := Lib.hid (HAt.out.dr HD.out)
      have f7 := H7'.out.free (i := 0)
      have z7 := H7'.out.cell (i := 0) rfl
      have l7 := H7'.out.lt
      have hs0 : 0 ≤ (s0 : Int) + v ∧ (s0 : Int) + v ≤ 30000000000000 := by omega
      go_wp2_with fail
      have ho := Only.set W4 (b := w.heap.size + 1) 0 (.int .i64 ((s0 : Int) + v))
      refine ⟨(HD.out.from (show c.mb < w1.heap.size by omega)).trans ((KeepsOthers.setCell _ _ _).from _), (HD.out.keepAt (show c.mb ∉ _ by simp; omega)).trans (KeepAt.set _ _ _ _ (by simp)), HA'.out.only ho (by omega) (by omega) (by omega) (by omega) (by omega), ho.box H5'.out (by omega), ?_, ((HDr.out.tr HD.out).only ho ⟨by omega, show w.heap.size + 1 ≠ c.mb by omega⟩).any⟩
      rw [HPS.out, HT.out, Int.natCast_add]
      exact H7'.out.put 0 _
    · have hge : decide ((b : Int) ≤ (x.v : Int)) = false := by simp; omega
      have h0 : trm (fun i j => (c.m i).testBit j) c.k.nL c.k.nR a b h x.v = 0 := by unfold trm; rw [if_neg hbx]
      have H0 := Lib.hid h0
      clear h0
      gi_wp2_with fail
      refine ⟨(KeepsOthers.refl _).from _, KeepAt.refl _ _, HAt.out, H5.out, ?_, HDr.out⟩
      rw [HPS.out, H0.out]
      exact H7.out
  case done =>
    rintro D ys W hD hys ⟨hAt, h5, h7, hDr⟩ hK
    rw [hys, ← HSUM.out] at h7
    have HAt := Lib.hid hAt
    have H5 := Lib.hid h5
    have H7 := Lib.hid h7
    have HDr := Lib.hid hDr
    have HK := Lib.hid hK
    have HN7 := Lib.hid (box_ne_map h7 hAt.g)
    have hDl : D < W.heap.size := (Array.getElem?_eq_some_iff.1 hK).1
    obtain ⟨o, ho1, ho2⟩ := hAt.g
    have HO1 := Lib.hid ho1
    have HO2 := Lib.hid ho2
    have z0 := h5.cell (i := 0) rfl
    have z1 := h5.cell (i := 1) rfl
    have z2 := h5.cell (i := 2) rfl
    have zl := h5.lt
    have z7 := h7.cell (i := 0) rfl
    have l7 := h7.lt
    have k0 := hAt.kn.cell (i := 0) rfl
    have kl' := hAt.kn.lt
    have HRS := Lib.hid (show Rst a b h from ⟨by omega, by omega, by omega, by omega⟩)
    clear hAt h5 h7 hDr hK ho1 ho2 hys
    go_wp2_with (with_reducible refine wpList_stopUpd rfl ?_; unfold Stop; refine wpList_learn (f := c.k.wy c.m) (a := a) (b := b) (h := h) HO1.out HO2.out HRS.out rfl rfl rfl rfl rfl ?_; intro w3 hd3; have z9 := (hd3.box H7.out HN7.out).cell (i := 0) rfl; have l9 := (hd3.box H7.out HN7.out).lt; have HD3 := Lib.hid hd3; clear hd3)
    have hK4 := (HD3.out.block D hDl (show D ≠ c.mb by omega)).trans HK.out
    refine ⟨by simp, .inl ⟨_, _, rfl, run_takeDeferred hK4, ?_⟩⟩
    refine ⟨.int .i64 (c.k.wy c.m a b h), by simp [results, Try.f96, go_sem], rfl, ?_⟩
    exact ((HDr.out.tr HD3.out).any (j := 0)).own (Nat.le_refl _) hmb (grownBy_putObj' _ D (.deferred none)) (fun r e => by cases e; exact ⟨by omega, _, hK4, rfl⟩)
  case stop =>
    rintro D c pre W _ _ h _
    exact h.elim

end Go.Proofs.Ytjlaoiimbhlafaa
end
section
namespace Go.Proofs.Ytjlaoiimbhlafaa
open Go.RowKit Go.Shelf

open MW
attribute [local go_sem] Oper.semAt_some
theorem count1_ok (c : Cnt) (hm : ∀ i, c.m i < 2048) (hmR : ∀ i, i < c.k.nL → ∀ j, c.k.nR ≤ j → j < 10 → (c.m i).testBit j = false) (hL : c.k.nL ≤ 10) (hR : c.k.nR ≤ 10) : ∀ (n a b : Nat) (h : Int) (w : World), c.k.nL - a = n → a ≤ c.k.nL → b ≤ c.k.nR → -20 ≤ h → h ≤ 20 → c.At w →
    Calls Try.prog 96 #[restV a b h, .pointer (some ⟨c.bl, 0, none⟩), .pointer (some ⟨c.bk, 0, none⟩), .pointer (some ⟨c.bo, 0, none⟩), .pointer (some ⟨c.bc, 0, none⟩)] w fun e w' => e = .returned (.int .i64 (c.k.wy c.m a b h)) ∧ Dr c.A 0 w w'
  | 0, a, b, h, w, hn, ha, hb, h1, h2, hA => count1_end c hm hmR hL hR a b h w (by omega) hb hA
  | n + 1, a, b, h, w, hn, ha, hb, h1, h2, hA => by
    have hA' := hA.gr (Gr.alloc w (.cells #[.int .i64 a, .int .i64 b, .int .i64 h] 148))
    obtain ⟨o, ho, hg⟩ := hA'.g
    rcases run_known ho hg (show Rst a b h from ⟨by omega, by omega, by omega, by omega⟩) with hk | hk
    · by_cases hh : h < 0
      · exact count1_neg c hm hmR hL hR a b h w (by omega) hh hA hk
      · exact count1_more c hm hmR hL hR a b h w (by omega) hb ⟨by omega, h2⟩ hA (fun b' h' W hb' h3 h4 hW => count1_ok c hm hmR hL hR n (a + 1) b' h' W (by omega) (by omega) hb' h3 h4 hW) hk
    · exact count1_known c hm hmR hL hR a b h w (by omega) hA hk
theorem run_store_func {P : Program} (w : World) (a : Addr) (m : Mode) (f : Fn) (pre caps : Array Value) : (store a (.func f pre caps) m).run P w = stored P w a (.func f pre caps) m := run_store P w a _ m rfl
attribute [local go_sem] run_store_func
def startC (k : Lk) (m : Nat → Nat) (n : Nat) : Cnt := ⟨k, m, n, n + 1 + 1 + 1, n + 1, n + 1 + 1 + 1 + 1, n + 1 + 1⟩
def startW (k : Lk) (m : Nat → Nat) (w : World) : World := ((((w.alloc (.cells k.cs.toArray 85)).alloc (.cells (opts m).toArray 83)).alloc (.map #[] 0)).alloc (.cells #[.map (some (w.heap.size + 1 + 1))] 145)).alloc
  (.cells #[.func (.func 96) #[] #[.pointer (some ⟨w.heap.size, 0, none⟩), .pointer (some ⟨w.heap.size + 1 + 1 + 1, 0, none⟩), .pointer (some ⟨w.heap.size + 1, 0, none⟩), .pointer (some ⟨w.heap.size + 1 + 1 + 1 + 1, 0, none⟩)]] 146)
theorem startC_at (k : Lk) (m : Nat → Nat) (w : World) : (startC k m w.heap.size).At (startW k m w) := by
  have h0 := Box.fresh w k.cs 85
  have h1 := Box.fresh (w.alloc (.cells k.cs.toArray 85)) (opts m) 83
  have h2 := World.alloc_heap_new ((w.alloc (.cells k.cs.toArray 85)).alloc (.cells (opts m).toArray 83)) (.map #[] 0)
  have h3 := Box.fresh (((w.alloc (.cells k.cs.toArray 85)).alloc (.cells (opts m).toArray 83)).alloc (.map #[] 0)) [.map (some (w.heap.size + 1 + 1))] 145
  have h4 := Box.fresh ((((w.alloc (.cells k.cs.toArray 85)).alloc (.cells (opts m).toArray 83)).alloc (.map #[] 0)).alloc (.cells #[.map (some (w.heap.size + 1 + 1))] 145)) [countV w.heap.size (w.heap.size + 1 + 1 + 1) (w.heap.size + 1) (w.heap.size + 1 + 1 + 1 + 1)] 146
  simp only [World.size_alloc] at h1 h2 h3 h4
  unfold startW startC
  refine ⟨(((h0.grow (Gr.alloc _ _)).grow (Gr.alloc _ _)).grow (Gr.alloc _ _)).grow (Gr.alloc _ _), h3.grow (Gr.alloc _ _), ((h1.grow (Gr.alloc _ _)).grow (Gr.alloc _ _)).grow (Gr.alloc _ _), h4, ⟨.map #[] 0, ?_, Gd.new _⟩⟩
  exact ((Gr.alloc _ _).block _ (by simp)).trans (((Gr.alloc _ _).block _ (by simp)).trans h2)
set_option maxRecDepth 100000 in
set_option maxHeartbeats 1000000 in
theorem count_any (k : Lk) (m : Nat → Nat) (hm : ∀ i, m i < 2048) (hmR : ∀ i, i < k.nL → ∀ j, k.nR ≤ j → j < 10 → (m i).testBit j = false) (hL : k.nL ≤ 10) (hR : k.nR ≤ 10) (hh : 0 ≤ k.h ∧ k.h ≤ 20) (w : World) :
    Calls Try.prog 52 #[.agg k.cs.toArray, .agg (opts m).toArray] w fun e w' => e = .returned (.int .i64 (k.wy m 0 0 k.h)) ∧ Below w.heap.size w w' := by
  have hl := k.cs_len
  have e4 : ∀ h : 4 < k.cs.length, k.cs[4] = .int .i64 k.h := fun _ => rfl
  have HC := Lib.hid (count1_ok (startC k m w.heap.size) hm hmR hL hR k.nL 0 0 k.h (startW k m w) (by simp [startC]) (Nat.zero_le _) (Nat.zero_le _) (by omega) (by omega) (startC_at k m w))
  have HS := Lib.hid (show Gr w (startW k m w) from ((((Gr.alloc _ _).tr (Gr.alloc _ _)).tr (Gr.alloc _ _)).tr (Gr.alloc _ _)).tr (Gr.alloc _ _))
  unfold startW startC at HC
  unfold startW at HS
  dsimp only at HC
  clear hm hmR
  unfold restV at HC
  have hmk : ∀ W : World, (Instr.makeMap 145 none).run Try.prog W = .ok (.map (some W.heap.size)) (W.alloc (.map #[] 0)) := fun _ => rfl
  go_enter Try.func52, Try.ntmps52
  go_wp2_with (go_at_call 96; refine HC.out.mono ?_; rintro e w1 ⟨rfl, hb1⟩)
  go_ret
  exact ⟨rfl, hb1.below HS.out (Nat.le_trans HS.out.size (Nat.le_refl _)) (by simp [Cnt.A]; omega)⟩

end Go.Proofs.Ytjlaoiimbhlafaa
end
