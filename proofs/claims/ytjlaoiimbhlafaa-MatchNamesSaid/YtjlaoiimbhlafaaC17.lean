import Derived.Test.YtjlaoiimbhlafaaC16
set_option linter.unusedVariables false
set_option linter.unusedSimpArgs false
namespace Go.Proofs.Ytjlaoiimbhlafaa
open Go.RowKit Go.Shelf

open MW
def mnI (a b : Int) : Int := if b < a then b else a
def mxI (a b : Int) : Int := if a < b then b else a
/-- A mark. -/
structure Mrk where
  a : Int
  b : Int
  c : Int
  d : Int
def Mrk.cs (m : Mrk) : List Value := [.int .i64 m.a, .int .i64 m.b, .int .i64 m.c, .int .i64 m.d]
def Mrk.val (m : Mrk) : Value := .agg #[.int .i64 m.a, .int .i64 m.b, .int .i64 m.c, .int .i64 m.d]
def spV (a b : Int) : Value := .agg #[.int .i64 a, .int .i64 b]
/-- Within the limits. -/
structure Mrk.In (m : Mrk) : Prop where
  a : -1000000 ≤ m.a ∧ m.a ≤ 1000000
  b : -1000000 ≤ m.b ∧ m.b ≤ 1000000
def okS (a b lo hi : Int) : Bool := decide (a ≤ b) && (decide (lo ≤ a) && decide (b ≤ hi))
def Mrk.ok (m : Mrk) : Bool := okS m.a m.b 0 65536 && okS m.c m.d 0 1000
set_option maxHeartbeats 400000 in
theorem span_any (lo hi : Int) (w : World) :
    Calls Try.prog 71 #[.int .i64 lo, .int .i64 hi] w fun e w' => e = .returned (spV lo hi) ∧ Below w.heap.size w w' := by
  unfold spV
  go_enter Try.func71, Try.ntmps71
  go_wp2
  exact bodyPost_ret (v := .agg #[.int .i64 lo, .int .i64 hi]) (by simp [results, Try.results71, go_sem]) rfl ⟨rfl, ((Below.refl _ _).alloc (by first | (simp; done) | (simp; omega) | omega) _)⟩
set_option maxHeartbeats 400000 in
theorem empty_any (a b : Int) (w : World) :
    Calls Try.prog 93 #[spV a b] w fun e w' => e = .returned (.bool (decide (b < a))) ∧ Below w.heap.size w w' := by
  unfold spV
  go_enter Try.func93, Try.ntmps93
  go_wp2
  go_ret
  exact ⟨rfl, ((Below.refl _ _).alloc (by first | (simp; done) | (simp; omega) | omega) _)⟩
set_option maxHeartbeats 400000 in
theorem overlap_any (a b c d : Int) (w : World) :
    Calls Try.prog 94 #[spV a b, spV c d] w fun e w' => e = .returned (spV (mxI a c) (mnI b d)) ∧ Below w.heap.size w w' := by
  have h1 : (if a < c then c else a) = mxI a c := rfl
  have h2 : (if d < b then d else b) = mnI b d := rfl
  generalize mxI a c = x at *
  generalize mnI b d = y at *
  have HS := Lib.hid (fun W => span_any x y W)
  unfold spV at *
  have HZ := Lib.hid (show Box (((w.alloc (Obj.cells #[.int .i64 a, .int .i64 b] 24)).alloc (Obj.cells #[.int .i64 c, .int .i64 d] 24)).alloc (Obj.cells #[.int .i64 0, .int .i64 0] 24)) (w.heap.size + 1 + 1) [.int .i64 0, .int .i64 0] 24 by
    have := Box.fresh ((w.alloc (Obj.cells #[.int .i64 a, .int .i64 b] 24)).alloc (Obj.cells #[.int .i64 c, .int .i64 d] 24)) [.int .i64 0, .int .i64 0] 24
    simpa using this)
  go_enter Try.func94, Try.ntmps94
  go_wp2_with (go_at_call 71; refine (HS.out _).mono ?_; rintro e w1 ⟨rfl, hb1⟩; have HZ1 := Lib.hid (HZ.out.grow hb1); obtain ⟨z0, z1, z2, z3, -⟩ := Box.two HZ1.out; have zl := HZ1.out.lt; have HB1 := Lib.hid hb1; clear hb1)
  obtain ⟨y0, y1, -, -, -⟩ := Box.two ((HZ1.out.put 0 (.int .i64 x)).put 1 (.int .i64 y))
  exact bodyPost_ret (v := .agg #[.int .i64 x, .int .i64 y]) (by simp [results, Try.f94, go_sem, y0, y1]) rfl ⟨rfl, ((bgr ((((Below.refl _ _).alloc (by first | (simp; done) | (simp; omega) | omega) _).alloc (by first | (simp; done) | (simp; omega) | omega) _).alloc (by first | (simp; done) | (simp; omega) | omega) _) (by first | (simp; done) | (simp; omega) | omega) HB1.out).setCell (by first | (simp; done) | (simp; omega) | omega) _).setCell (by first | (simp; done) | (simp; omega) | omega) _⟩
set_option maxHeartbeats 400000 in
theorem apart_any (m n : Mrk) (w : World) (hm : m.In) (hn : n.In) :
    Calls Try.prog 108 #[m.val, n.val] w fun e w' => e = .returned (spV (m.a - n.b) (m.b - n.a)) ∧ Below w.heap.size w w' := by
  have HS := Lib.hid (fun W => span_any (m.a - n.b) (m.b - n.a) W)
  obtain ⟨⟨q1, q2⟩, ⟨q3, q4⟩⟩ := hm
  obtain ⟨⟨q5, q6⟩, ⟨q7, q8⟩⟩ := hn
  unfold spV at *
  unfold Mrk.val
  have HZ := Lib.hid (show Box (((w.alloc (Obj.cells #[.int .i64 m.a, .int .i64 m.b, .int .i64 m.c, .int .i64 m.d] 65)).alloc (Obj.cells #[.int .i64 n.a, .int .i64 n.b, .int .i64 n.c, .int .i64 n.d] 65)).alloc (Obj.cells #[.int .i64 0, .int .i64 0] 24)) (w.heap.size + 1 + 1) [.int .i64 0, .int .i64 0] 24 by
    have := Box.fresh ((w.alloc (Obj.cells #[.int .i64 m.a, .int .i64 m.b, .int .i64 m.c, .int .i64 m.d] 65)).alloc (Obj.cells #[.int .i64 n.a, .int .i64 n.b, .int .i64 n.c, .int .i64 n.d] 65)) [.int .i64 0, .int .i64 0] 24
    simpa using this)
  go_enter Try.func108, Try.ntmps108
  go_wp2_with (go_at_call 71; refine (HS.out _).mono ?_; rintro e w1 ⟨rfl, hb1⟩; have HZ1 := Lib.hid (HZ.out.grow hb1); obtain ⟨z0, z1, z2, z3, -⟩ := Box.two HZ1.out; have zl := HZ1.out.lt; have HB1 := Lib.hid hb1; clear hb1)
  obtain ⟨y0, y1, -, -, -⟩ := Box.two ((HZ1.out.put 0 (.int .i64 (m.a - n.b))).put 1 (.int .i64 (m.b - n.a)))
  exact bodyPost_ret (v := .agg #[.int .i64 (m.a - n.b), .int .i64 (m.b - n.a)]) (by simp [results, Try.f108, go_sem, y0, y1]) rfl ⟨rfl, ((bgr ((((Below.refl _ _).alloc (by first | (simp; done) | (simp; omega) | omega) _).alloc (by first | (simp; done) | (simp; omega) | omega) _).alloc (by first | (simp; done) | (simp; omega) | omega) _) (by first | (simp; done) | (simp; omega) | omega) HB1.out).setCell (by first | (simp; done) | (simp; omega) | omega) _).setCell (by first | (simp; done) | (simp; omega) | omega) _⟩
set_option maxHeartbeats 400000 in
theorem within_any (a b c d : Int) (w : World) :
    Calls Try.prog 118 #[spV a b, spV c d] w fun e w' => e = .returned (.bool (okS a b c d)) ∧ Below w.heap.size w w' := by
  have HE := Lib.hid (fun W => empty_any a b W)
  unfold okS
  unfold spV at *
  cases h1 : decide (a ≤ b) with
  | false =>
    have h1' : decide (b < a) = true := by simp at h1; simpa using h1
    rw [h1'] at HE
    go_enter Try.func118, Try.ntmps118
    go_wp2_with (go_at_call 93; refine (HE.out _).mono ?_; rintro e w1 ⟨rfl, hb1⟩)
    go_ret
    exact ⟨rfl, bgr (((Below.refl _ _).alloc (by first | (simp; done) | (simp; omega) | omega) _).alloc (by first | (simp; done) | (simp; omega) | omega) _) (by first | (simp; done) | (simp; omega) | omega) hb1⟩
  | true =>
    have h1' : decide (b < a) = false := by simp at h1; simpa using h1
    rw [h1'] at HE
    cases h2 : decide (c ≤ a) with
    | false =>
      go_enter Try.func118, Try.ntmps118
      go_wp2_with (go_at_call 93; refine (HE.out _).mono ?_; rintro e w1 ⟨rfl, hb1⟩; obtain ⟨hc, hf, hz⟩ := bcell (show Below _ _ w1 from hb1))
      go_ret
      exact ⟨rfl, bgr (((Below.refl _ _).alloc (by first | (simp; done) | (simp; omega) | omega) _).alloc (by first | (simp; done) | (simp; omega) | omega) _) (by first | (simp; done) | (simp; omega) | omega) hb1⟩
    | true =>
      go_enter Try.func118, Try.ntmps118
      go_wp2_with (go_at_call 93; refine (HE.out _).mono ?_; rintro e w1 ⟨rfl, hb1⟩; obtain ⟨hc, hf, hz⟩ := bcell (show Below _ _ w1 from hb1))
      go_ret
      exact ⟨by simp, bgr (((Below.refl _ _).alloc (by first | (simp; done) | (simp; omega) | omega) _).alloc (by first | (simp; done) | (simp; omega) | omega) _) (by first | (simp; done) | (simp; omega) | omega) hb1⟩
set_option maxHeartbeats 400000 in
theorem isMark_any (i : Int) (p : Option Addr) (n c : Nat) (w : World) :
    Calls Try.prog 49 #[.int .i64 i, .slice p n c] w fun e w' => e = .returned (.bool (decide (0 ≤ i) && decide (i < n))) ∧ Below w.heap.size w w' := by
  cases h1 : decide (0 ≤ i) with
  | false =>
    go_enter Try.func49, Try.ntmps49
    go_wp2
    go_ret
    exact ⟨rfl, Below.refl _ _⟩
  | true =>
    go_enter Try.func49, Try.ntmps49
    go_wp2
    go_ret
    exact ⟨by simp, Below.refl _ _⟩

end Go.Proofs.Ytjlaoiimbhlafaa
