import Derived.Test.YtofdoadpaedogaaT4
namespace Go.Proofs.Ytofdoadpaedogaa
open Go.RowKit

set_option maxHeartbeats 400000 in
theorem require_ok (k : Int) (w : World) :
    Calls Try.prog 51 #[.bool true, .int .i64 k] w fun e w' => e = .returned (.tuple #[]) ∧ Below w.heap.size w w' := by
  go_enter Try.func51, Try.ntmps51
  go_wp2
  go_end0
  exact ⟨rfl, Below.refl _ _⟩
set_option maxHeartbeats 400000 in
theorem require_no (k : Int) (w : World) :
    Calls Try.prog 51 #[.bool false, .int .i64 k] w fun e w' => e = .panicked [{ v := .iface 28 (.int .i64 k), recovered := false }] ∧ Below w.heap.size w w' := by
  go_enter Try.func51, Try.ntmps51
  go_wp2
  exact ⟨rfl, rfl, Below.refl _ _⟩
set_option maxHeartbeats 400000 in
theorem errorOf_any (k : Int) (w : World) :
    Calls Try.prog 72 #[.iface 28 (.int .i64 k)] w fun e w' => e = .returned (.int .i64 k) ∧ Below w.heap.size w w' := by
  have hta : ∀ w, (Instr.typeAssert (.iface 28 (.int .i64 k)) 20 28 true).run Try.prog w = .ok (.tuple #[.int .i64 k, .bool true]) w := fun w => by kernel_rfl
  go_enter Try.func72, Try.ntmps72
  go_wp2
  go_ret
  exact ⟨rfl, Below.refl _ _⟩

def okSp (lo hi : Int) (p : Int × Int) : Bool := decide (p.1 ≤ p.2) && decide (lo ≤ p.1) && decide (p.2 ≤ hi)
theorem all_snoc (f : Int × Int → Bool) (l : List (Int × Int)) (k : Nat) (h : k < l.length) (h1 : (l.take k).all f = true) (h2 : f (l.getD k (0, 0)) = true) : (l.take (k + 1)).all f = true := by
  rw [List.take_succ_eq_append_getElem h, List.all_append, h1]
  simpa [h] using h2
theorem all_no (f : Int × Int → Bool) (l : List (Int × Int)) (k : Nat) (h : k < l.length) (h2 : f (l.getD k (0, 0)) = false) : l.all f = false := by
  rw [List.all_eq_false]
  exact ⟨l[k], List.getElem_mem h, by simpa [h] using h2⟩
set_option maxHeartbeats 600000 in
theorem within_any (lo hi : Int) (v : Value) (l : List (Int × Int)) (w : World) (h : SpansAt l v w) :
    Calls Try.prog 99 #[.agg #[.int .i64 lo, .int .i64 hi], v] w fun e w' => e = .returned (.bool (l.all (okSp lo hi))) ∧ Below w.heap.size w w' := by
  obtain ⟨b, o, cap, rfl, hb, hlen, hc⟩ := h
  go_enter Try.func99, Try.ntmps99
  go_wp2
  have hal := @cal
  have hfl := @fal
  go_loopw [9] (fun i wr => ∃ k : Nat, k ≤ l.length ∧ i = .int .i64 k ∧ Below w.heap.size w wr ∧ (l.take k).all (okSp lo hi) = true ∧ ∃ T, Box wr w.heap.size [.int .i64 lo, .int .i64 hi] T) (fun i _ => l.length - (intOf i).toNat)
  case atStart =>
    exact ⟨0, Nat.zero_le _, rfl, (Below.refl _ _).alloc (Nat.le_refl _) _, by simp, 23, (Box.fresh w _ _)⟩
  case round =>
    obtain ⟨k, hk, rfl, hB, hall, T, b1⟩ := hrel
    have HB1 := Lib.hid b1
    have ⟨c10, c11, f10, f11, l1⟩ := b1.two
    have HA := Lib.hid hall
    clear hall b1
    by_cases hlt : k < l.length
    · have hbb : b < wr.heap.size := Nat.lt_of_lt_of_le hb hB.size
      have ⟨hx, hy⟩ := hc k hlt
      rw [← hB.cell (p := ⟨b, _, none⟩) hb] at hx hy
      clear hc
      have HN := Lib.hid (all_no (okSp lo hi) l k hlt)
      have HS := Lib.hid (all_snoc (okSp lo hi) l k hlt HA.out)
      generalize l.getD k (0, 0) = p at *
      have hG : ∀ w1, Gr (wr.alloc (Obj.cells #[Value.int IntKind.i64 p.fst, Value.int IntKind.i64 p.snd] 23)) w1 → Below w.heap.size w w1 := fun w1 h => bgr (bgr hB hB.size (Gr.alloc _ _)) (by simp; omega) h
      have HG := Lib.hid hG
      clear hG
      by_cases h1 : p.2 < p.1
      · have d1 : decide (p.2 < p.1) = true := by simpa using h1
        have e1 := Lib.hid (HN.out (by simp [okSp]; omega))
        go_wp2_with (go_at_call 75; refine (empty_any _ _ _).mono ?_; rintro e w1 ⟨rfl, hb1⟩; obtain ⟨hc1, hf1, hz1⟩ := bcell hb1)
        go_ret
        exact ⟨congrArg (fun x => Ending.returned (.bool x)) e1.out.symm, HG.out _ hb1⟩
      · have d1 : decide (p.2 < p.1) = false := by simpa using h1
        by_cases h2 : p.1 < lo
        · have d2 : decide (p.1 < lo) = true := by simpa using h2
          have e1 := Lib.hid (HN.out (by simp [okSp]; omega))
          go_wp2_with (go_at_call 75; refine (empty_any _ _ _).mono ?_; rintro e w1 ⟨rfl, hb1⟩; obtain ⟨hc1, hf1, hz1⟩ := bcell hb1)
          go_ret
          exact ⟨congrArg (fun x => Ending.returned (.bool x)) e1.out.symm, HG.out _ hb1⟩
        · have d2 : decide (p.1 < lo) = false := by simpa using h2
          by_cases h3 : hi < p.2
          · have d3 : decide (hi < p.2) = true := by simpa using h3
            have e1 := Lib.hid (HN.out (by simp [okSp]; omega))
            go_wp2_with (go_at_call 75; refine (empty_any _ _ _).mono ?_; rintro e w1 ⟨rfl, hb1⟩; obtain ⟨hc1, hf1, hz1⟩ := bcell hb1)
            go_ret
            exact ⟨congrArg (fun x => Ending.returned (.bool x)) e1.out.symm, HG.out _ hb1⟩
          · have d3 : decide (hi < p.2) = false := by simpa using h3
            have e1 := Lib.hid (HS.out (by simp [okSp]; omega))
            go_wp2_with (go_at_call 75; refine (empty_any _ _ _).mono ?_; rintro e w1 ⟨rfl, hb1⟩; obtain ⟨hc1, hf1, hz1⟩ := bcell hb1)
            exact ⟨⟨k + 1, by omega, by go_num, HG.out _ hb1, e1.out, T, (HB1.out.grow (Gr.alloc _ _)).grow hb1⟩, by simp [intOf]; omega⟩
    · have : k = l.length := by omega
      subst this
      have e1 : l.all (okSp lo hi) = true := by simpa using HA.out
      have E1 := Lib.hid e1
      clear e1
      go_wp2
      go_ret
      exact ⟨congrArg (fun x => Ending.returned (.bool x)) E1.out.symm, hB⟩
end Go.Proofs.Ytofdoadpaedogaa
