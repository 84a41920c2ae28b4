import Derived.Test.YtjlaoiimbhlafaaC2
set_option linter.unusedVariables false
set_option linter.unusedSimpArgs false
namespace Go.Proofs.Ytjlaoiimbhlafaa
open Go.RowKit Go.Shelf

open MW
/-- Rows that are looked at. -/
structure Lk where
  lp : Option Addr
  lc : Nat
  rp : Option Addr
  rc : Nat
  nL : Nat
  nR : Nat
  s : Int
  t : Int
  h : Int
  fit : Nat → Nat → Bool
  all : Nat → Nat
def Lk.rows (k : Lk) : List Value := [.slice k.lp k.nL k.lc, .slice k.rp k.nR k.rc, .int .i64 k.s, .int .i64 k.t, .int .i64 k.h]
def fitc (f : Nat → Nat → Bool) : List Value := (List.range 100).map fun j => .bool (f (j / 10) (j % 10))
def opts (m : Nat → Nat) : List Value := (List.range 10).map fun i => .int .i64 (m i)
def Lk.cs (k : Lk) : List Value := k.rows ++ (fitc k.fit ++ opts k.all)
theorem fitc_len (f : Nat → Nat → Bool) : (fitc f).length = 100 := by unfold fitc; simp
theorem opts_len (m : Nat → Nat) : (opts m).length = 10 := by unfold opts; simp
theorem Lk.cs_len (k : Lk) : k.cs.length = 115 := by unfold Lk.cs; rw [List.length_append, List.length_append, fitc_len, opts_len]; rfl
theorem opts_at (m : Nat → Nat) {i : Nat} (h : i < 10) : (opts m)[i]? = some (.int .i64 (m i)) := by unfold opts; simp [h]
theorem fitc_at (f : Nat → Nat → Bool) {i j : Nat} (hi : i < 10) (hj : j < 10) : (fitc f)[10 * i + j]? = some (.bool (f i j)) := by
  unfold fitc
  rw [List.getElem?_map, List.getElem?_range (by omega)]
  simp only [Option.map_some]
  congr 3
  · omega
  · omega
theorem Lk.fit_at (k : Lk) {i j : Nat} (hi : i < 10) (hj : j < 10) : k.cs[5 + (10 * i + j)]? = some (.bool (k.fit i j)) := by
  unfold Lk.cs
  rw [List.getElem?_append_right (by show 5 ≤ _; omega)]
  have : 5 + (10 * i + j) - k.rows.length = 10 * i + j := by show 5 + (10 * i + j) - 5 = _; omega
  rw [this, List.getElem?_append_left (by rw [fitc_len]; omega), fitc_at _ hi hj]
theorem Lk.all_at (k : Lk) {i : Nat} (hi : i < 10) : k.cs[105 + i]? = some (.int .i64 (k.all i)) := by
  unfold Lk.cs
  rw [List.getElem?_append_right (by show 5 ≤ _; omega)]
  have : 105 + i - k.rows.length = 100 + i := by show 105 + i - 5 = _; omega
  rw [this, List.getElem?_append_right (by rw [fitc_len]; omega), fitc_len]
  have : 100 + i - 100 = i := by omega
  rw [this, opts_at _ hi]
theorem Lk.c0 (k : Lk) : k.cs[0]? = some (.slice k.lp k.nL k.lc) := rfl
theorem Lk.c1 (k : Lk) : k.cs[1]? = some (.slice k.rp k.nR k.rc) := rfl
theorem Lk.c2 (k : Lk) : k.cs[2]? = some (.int .i64 k.s) := rfl
theorem Lk.c3 (k : Lk) : k.cs[3]? = some (.int .i64 k.t) := rfl
theorem Lk.c4 (k : Lk) : k.cs[4]? = some (.int .i64 k.h) := rfl
theorem row85 : rowOf Try.prog 85 115 = true := by kernel_rfl
theorem row83 : rowOf Try.prog 83 10 = true := by kernel_rfl
theorem row26 : rowOf Try.prog 26 5 = true := by kernel_rfl
def restV (a b : Nat) (h : Int) : Value := .agg #[.int .i64 a, .int .i64 b, .int .i64 h]
/-- What an iterator over marks is. -/
def marksV (b1 b2 : Nat) : Value := .func (.func 107) #[] #[.pointer (some ⟨b1, 0, none⟩), .pointer (some ⟨b2, 0, none⟩)]
set_option maxHeartbeats 400000 in
theorem marks_ret (many : Int) (f : Fn) (pre caps : Array Value) (w : World) :
    Calls Try.prog 67 #[.int .i64 many, .func f pre caps] w fun e w' => e = .returned (marksV w.heap.size (w.heap.size + 1)) ∧ Box w' w.heap.size [.int .i64 many] 3 ∧ Box w' (w.heap.size + 1) [.func f pre caps] 102 ∧ Below w.heap.size w w' := by
  have HB1 := Lib.hid ((Box.fresh w [.int .i64 many] 3).grow (Gr.alloc _ (Obj.cells #[Value.func f pre caps] 102)))
  have HB2 := Lib.hid (show Box ((w.alloc (Obj.cells #[.int .i64 many] 3)).alloc (Obj.cells #[Value.func f pre caps] 102)) (w.heap.size + 1) [.func f pre caps] 102 by
    have := Box.fresh (w.alloc (Obj.cells #[.int .i64 many] 3)) [.func f pre caps] 102
    simpa using this)
  unfold marksV
  go_enter Try.func67, Try.ntmps67
  go_wp2
  go_ret
  exact ⟨rfl, HB1.out, HB2.out, ((Below.refl _ _).alloc (by first | (simp; done) | (simp; omega) | omega) _).alloc (by first | (simp; done) | (simp; omega) | omega) _⟩
set_option maxHeartbeats 400000 in
theorem behind_hid (a b : Nat) (h : Int) (w : World) (ha : a ≤ 100) (hb : b ≤ 100) (hh : -1000 ≤ h ∧ h ≤ 1000) :
    Calls Try.prog 98 #[restV a b h, .int .i64 (10 : Nat)] w fun e w' => e = .returned (restV (a + 1) b (h - 1)) ∧ Below w.heap.size w w' := by
  unfold restV
  go_enter Try.func98, Try.ntmps98
  go_wp2
  refine bodyPost_ret (v := .agg #[.int .i64 ((a : Int) + 1), .int .i64 (b : Int), .int .i64 (h - 1)]) (by simp [results, Try.results98, go_sem]) rfl ⟨by simp, (((Below.refl _ _).alloc (by first | (simp; done) | (simp; omega) | omega) _).alloc (by first | (simp; done) | (simp; omega) | omega) _)⟩
set_option maxHeartbeats 400000 in
theorem behind_pair (a b o : Nat) (h : Int) (w : World) (ha : a ≤ 100) (hb : b ≤ 100) (ho : o < 10) (hh : -1000 ≤ h ∧ h ≤ 1000) :
    Calls Try.prog 98 #[restV a b h, .int .i64 o] w fun e w' => e = .returned (restV (a + 1) (o + 1) (h - ((o : Int) - b))) ∧ Below w.heap.size w w' := by
  have hne : ((o : Int) == 10) = false := by simp; omega
  unfold restV
  go_enter Try.func98, Try.ntmps98
  go_wp2
  refine bodyPost_ret (v := .agg #[.int .i64 ((a : Int) + 1), .int .i64 ((o : Int) + 1), .int .i64 (h - ((o : Int) - b))]) (by simp [results, Try.results98, go_sem]) rfl ⟨by simp, (((Below.refl _ _).alloc (by first | (simp; done) | (simp; omega) | omega) _).alloc (by first | (simp; done) | (simp; omega) | omega) _)⟩
set_option maxHeartbeats 400000 in
theorem end_any (k : Lk) (a b : Nat) (h : Int) (w : World) (hb : b ≤ 100) (hR : k.nR ≤ 100) :
    Calls Try.prog 97 #[.agg k.cs.toArray, restV a b h] w fun e w' => e = .returned (.int .i64 (if (k.nR : Int) - b > h then 0 else 1 : Nat)) ∧ Below w.heap.size w w' := by
  have hl := k.cs_len
  have e1 : ∀ h : 1 < k.cs.length, k.cs[1] = .slice k.rp k.nR k.rc := fun _ => rfl
  unfold restV
  by_cases hc : (k.nR : Int) - b > h
  · have hd : decide (h < (k.nR : Int) - b) = true := by simpa using hc
    rw [if_pos hc]
    go_enter Try.func97, Try.ntmps97
    go_wp2
    go_ret
    exact ⟨rfl, ((Below.refl _ _).alloc (by first | (simp; done) | (simp; omega) | omega) _).alloc (by first | (simp; done) | (simp; omega) | omega) _⟩
  · have hd : decide (h < (k.nR : Int) - b) = false := by simpa using hc
    rw [if_neg hc]
    go_enter Try.func97, Try.ntmps97
    go_wp2
    go_ret
    exact ⟨rfl, ((Below.refl _ _).alloc (by first | (simp; done) | (simp; omega) | omega) _).alloc (by first | (simp; done) | (simp; omega) | omega) _⟩

end Go.Proofs.Ytjlaoiimbhlafaa
