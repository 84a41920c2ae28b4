import Derived.Laws.EntriesVeiled
import Derived.Test.YtjlaoiimbhlafaaZT8
namespace Go.Proofs.Ytjlaoiimbhlafaa.Pq
open Go.RowKit


def Sg.tooNear (s : Sg) (phi : Int) : Bool := decide (2000 < s.lo) || decide (phi < s.pw.1)
def Sg.reason (s : Sg) (plo phi : Int) : Nat → Bool
  | 0 => s.sl
  | 1 => decide (s.hi < 0)
  | 2 => s.tooNear phi
  | _ => decide (s.pw.2 < plo)
def Sg.why (s : Sg) (plo phi : Int) : Int :=
  if s.reason plo phi 0 then 1 else if s.reason plo phi 1 then 2 else if s.reason plo phi 2 then 3 else if s.reason plo phi 3 then 4 else 0

theorem tooFar_any (s : Sg) (plo phi : Int) (w : World) (h : s.ok) : Calls Try.prog 136 #[s.val, .agg #[.int .i64 plo, .int .i64 phi]] w fun e w' => e = .returned (.bool (decide (s.pw.2 < plo))) ∧ Below w.heap.size w w' := by
  have hst := Sg.st_in h
  obtain ⟨wit, lo, hi, sl⟩ := s
  obtain ⟨hw, -⟩ := h
  cases wit with
  | mark m => exact tooFar_mark m lo hi plo phi sl _ hst hw.1 hw.2
  | far n f => exact tooFar_far n f lo hi plo phi sl _ hst hw.1 hw.2.1 hw.2.2.1 hw.2.2.2
theorem tooNear_any (s : Sg) (plo phi : Int) (w : World) (h : s.ok) : Calls Try.prog 135 #[s.val, .agg #[.int .i64 plo, .int .i64 phi]] w fun e w' => e = .returned (.bool (s.tooNear phi)) ∧ Below w.heap.size w w' := by
  have hst := Sg.st_in h
  obtain ⟨wit, lo, hi, sl⟩ := s
  obtain ⟨hw, -⟩ := h
  by_cases hlo : 2000 < lo
  · have e : Sg.tooNear ⟨wit, lo, hi, sl⟩ phi = true := by simp [Sg.tooNear, hlo]
    rw [e]
    exact tooNear_yes wit.val lo hi plo phi sl _ (by simpa using hlo)
  · cases wit with
    | mark m =>
      have e : Sg.tooNear ⟨.mark m, lo, hi, sl⟩ phi = decide (phi < (ovl (lo, hi) (0, 2000)).1 * m) := by simp only [Sg.tooNear, hlo, decide_false, Bool.false_or]; rfl
      rw [e]
      exact tooNear_mark m lo hi plo phi sl _ hst hw.1 hw.2 (by simpa using hlo)
    | far n f =>
      have e : Sg.tooNear ⟨.far n f, lo, hi, sl⟩ phi = decide (phi < (ovl (lo, hi) (0, 2000)).1 * n) := by simp only [Sg.tooNear, hlo, decide_false, Bool.false_or]; rfl
      rw [e]
      exact tooNear_far n f lo hi plo phi sl _ hst hw.1 hw.2.1 hw.2.2.1 hw.2.2.2 (by simpa using hlo)

theorem reasons_any (w : World) : Calls Try.prog 115 #[] w fun e w' => ∃ b, e = .returned (.slice (some ⟨b, 0, none⟩) 4 4) ∧ Below w.heap.size w w' ∧ Box w' b [.int .i64 1, .func (.func 133) #[] #[], .int .i64 2, .func (.func 134) #[] #[], .int .i64 3, .func (.func 135) #[] #[], .int .i64 4, .func (.func 136) #[] #[]] 165 := by
  go_enter Try.func115, Try.ntmps115
  go_wp2
  go_ret
  exact ⟨w.heap.size, rfl, (Below.refl _ _).alloc (Nat.le_refl _) _, Box.fresh w [.int .i64 1, .func (.func 133) #[] #[], .int .i64 2, .func (.func 134) #[] #[], .int .i64 3, .func (.func 135) #[] #[], .int .i64 4, .func (.func 136) #[] #[]] 165⟩

def why0 (s : Sg) (plo phi : Int) (k : Nat) : Prop := ∀ j, j < k → s.reason plo phi j = false
theorem why_at {s : Sg} {plo phi : Int} {k : Nat} (hk : k < 4) (h : why0 s plo phi k) (h1 : s.reason plo phi k = true) : s.why plo phi = (k : Int) + 1 := by
  unfold Sg.why
  match k, hk with
  | 0, _ => simp [h1]
  | 1, _ => simp [h1, h 0 (by omega)]
  | 2, _ => simp [h1, h 0 (by omega), h 1 (by omega)]
  | 3, _ => simp [h1, h 0 (by omega), h 1 (by omega), h 2 (by omega)]
theorem why_none {s : Sg} {plo phi : Int} (h : why0 s plo phi 4) : s.why plo phi = 0 := by
  unfold Sg.why
  simp [h 0 (by omega), h 1 (by omega), h 2 (by omega), h 3 (by omega)]
theorem why0_succ {s : Sg} {plo phi : Int} {k : Nat} (h : why0 s plo phi k) (h1 : s.reason plo phi k = false) : why0 s plo phi (k + 1) := fun j hj => by
  by_cases e : j = k
  · subst e; exact h1
  · exact h j (by omega)
theorem _root_.Go.Proofs.Ytjlaoiimbhlafaa.Box.four {w : World} {b : Nat} {x y z u : Value} {T : TypeId} (h : Box w b [x, y, z, u] T) : w.cell? ⟨b, 0, none⟩ = some x ∧ w.cell? ⟨b, 1, none⟩ = some y ∧ w.cell? ⟨b, 2, none⟩ = some z ∧ w.cell? ⟨b, 3, none⟩ = some u ∧ b < w.heap.size :=
  ⟨h.cell rfl, h.cell rfl, h.cell rfl, h.cell rfl, h.lt⟩
set_option maxHeartbeats 1000000 in
theorem why_true (wit : Wit) (lo hi plo phi : Int) (w : World) (_h : Sg.ok ⟨wit, lo, hi, true⟩) : Calls Try.prog 88 #[Sg.val ⟨wit, lo, hi, true⟩, .agg #[.int .i64 plo, .int .i64 phi]] w fun e w' => e = .returned (.int .i64 (Sg.why ⟨wit, lo, hi, true⟩ plo phi)) ∧ Below w.heap.size w w' := by
  have hwhy : ∃ x, Sg.why ⟨wit, lo, hi, true⟩ plo phi = x := ⟨_, rfl⟩
  obtain ⟨x, hx⟩ := hwhy
  rw [hx]
  have HX := Lib.hid hx
  clear hx
  show Calls Try.prog 88 #[.agg #[wit.val, .int .i64 lo, .int .i64 hi, .bool true], .agg #[.int .i64 plo, .int .i64 phi]] w _
  generalize hwv : wit.val = wv
  have HW := Lib.hid hwv
  clear hwv
  go_enter Try.func88, Try.ntmps88
  go_wp2_with (go_at_call 115; refine (reasons_any _).mono ?_; rintro e w1 ⟨b, rfl, hb1, bb⟩; obtain ⟨hc1, hf1, hz1⟩ := bcell hb1)
  have B1 : Box w1 w.heap.size [wv, .int .i64 lo, .int .i64 hi, .bool true] 127 := ((Box.fresh w [wv, .int .i64 lo, .int .i64 hi, .bool true] 127).grow (Gr.alloc _ _)).grow hb1
  have B2 : Box w1 (w.heap.size + 1) [.int .i64 plo, .int .i64 phi] 24 := by
    have := (Box.fresh (w.alloc (Obj.cells #[wv, Value.int IntKind.i64 lo, Value.int IntKind.i64 hi, Value.bool true] 127)) [.int .i64 plo, .int .i64 phi] 24).grow hb1
    simpa using this
  have BW : Below w.heap.size w w1 := (bgr (((Below.refl _ _).alloc (by first | (simp; done) | (simp; omega) | omega) _).alloc (by first | (simp; done) | (simp; omega) | omega) _) (by first | (simp; done) | (simp; omega) | omega) hb1)
  have HB1 := Lib.hid B1
  have HB2 := Lib.hid B2
  have HBW := Lib.hid BW
  have HBB := Lib.hid bb
  clear B1 B2 BW bb hc1 hf1 hz1 hb1
  have hal := @cal
  have hfl := @fal
  go_loopw [9] (fun i wr => ∃ k : Nat, k ≤ 4 ∧ i = .int .i64 k ∧ why0 ⟨wit, lo, hi, true⟩ plo phi k ∧ Gr w1 wr) (fun i _ => 4 - (intOf i).toNat)
  case atStart => exact ⟨0, Nat.zero_le _, rfl, fun j hj => by omega, Gr.same _⟩
  case round =>
    obtain ⟨k, hk, rfl, hw0, hg⟩ := hrel
    have HG := Lib.hid hg
    have H0 := Lib.hid hw0
    clear hg hw0
    have ⟨c10, c11, c12, c13, l1⟩ := (HB1.out.grow HG.out).four
    have ⟨c20, c21, f20, f21, l2⟩ := (HB2.out.grow HG.out).two
    have bb := HBB.out.grow HG.out
    have l3 := bb.lt
    match k, hk with
    | 4, _ =>
      clear bb
      have hz := Lib.hid (why_none H0.out)
      go_wp2
      go_ret
      exact ⟨congrArg (fun x => Ending.returned (.int .i64 x)) (hz.out.symm.trans HX.out), bgr HBW.out HBW.out.size HG.out⟩
    | 0, _ =>
      have d0 := bb.cell (i := 0) rfl
      have d1 := bb.cell (i := 1) rfl
      clear bb
      · have hr : Sg.reason ⟨wit, lo, hi, true⟩ plo phi 0 = true := rfl
        have hx := Lib.hid ((why_at (by omega) H0.out hr).symm.trans HX.out)
        clear hr
        go_wp2_with (go_at_call 133; obtain rfl := HW.out; refine ((isSlanted_any _ _ _ _ _ _ _ : Calls _ _ _ _ _)).mono ?_; rintro e w2 ⟨rfl, hb2⟩; obtain ⟨hc2, hf2, hz2⟩ := bcell hb2)
        go_ret
        exact ⟨congrArg (fun x => Ending.returned (.int .i64 x)) (by first | exact hx.out | simpa using hx.out), bgr (bgr (bgr HBW.out HBW.out.size HG.out) (bgr HBW.out HBW.out.size HG.out).size (Gr.alloc _ _)) (by have := (bgr HBW.out HBW.out.size HG.out).size; simp; omega) hb2⟩
    | 1, _ => exact absurd (H0.out 0 (by omega)) (by simp [Sg.reason])
    | 2, _ => exact absurd (H0.out 0 (by omega)) (by simp [Sg.reason])
    | 3, _ => exact absurd (H0.out 0 (by omega)) (by simp [Sg.reason])
set_option maxHeartbeats 1000000 in
theorem why_false (wit : Wit) (lo hi plo phi : Int) (w : World) (h : Sg.ok ⟨wit, lo, hi, false⟩) : Calls Try.prog 88 #[Sg.val ⟨wit, lo, hi, false⟩, .agg #[.int .i64 plo, .int .i64 phi]] w fun e w' => e = .returned (.int .i64 (Sg.why ⟨wit, lo, hi, false⟩ plo phi)) ∧ Below w.heap.size w w' := by
  have hwhy : ∃ x, Sg.why ⟨wit, lo, hi, false⟩ plo phi = x := ⟨_, rfl⟩
  obtain ⟨x, hx⟩ := hwhy
  rw [hx]
  have HX := Lib.hid hx
  clear hx
  show Calls Try.prog 88 #[.agg #[wit.val, .int .i64 lo, .int .i64 hi, .bool false], .agg #[.int .i64 plo, .int .i64 phi]] w _
  generalize hwv : wit.val = wv
  have HW := Lib.hid hwv
  clear hwv
  go_enter Try.func88, Try.ntmps88
  go_wp2_with (go_at_call 115; refine (reasons_any _).mono ?_; rintro e w1 ⟨b, rfl, hb1, bb⟩; obtain ⟨hc1, hf1, hz1⟩ := bcell hb1)
  have B1 : Box w1 w.heap.size [wv, .int .i64 lo, .int .i64 hi, .bool false] 127 := ((Box.fresh w [wv, .int .i64 lo, .int .i64 hi, .bool false] 127).grow (Gr.alloc _ _)).grow hb1
  have B2 : Box w1 (w.heap.size + 1) [.int .i64 plo, .int .i64 phi] 24 := by
    have := (Box.fresh (w.alloc (Obj.cells #[wv, Value.int IntKind.i64 lo, Value.int IntKind.i64 hi, Value.bool false] 127)) [.int .i64 plo, .int .i64 phi] 24).grow hb1
    simpa using this
  have BW : Below w.heap.size w w1 := (bgr (((Below.refl _ _).alloc (by first | (simp; done) | (simp; omega) | omega) _).alloc (by first | (simp; done) | (simp; omega) | omega) _) (by first | (simp; done) | (simp; omega) | omega) hb1)
  have HB1 := Lib.hid B1
  have HB2 := Lib.hid B2
  have HBW := Lib.hid BW
  have HBB := Lib.hid bb
  clear B1 B2 BW bb hc1 hf1 hz1 hb1
  have hal := @cal
  have hfl := @fal
  go_loopw [9] (fun i wr => ∃ k : Nat, k ≤ 4 ∧ i = .int .i64 k ∧ why0 ⟨wit, lo, hi, false⟩ plo phi k ∧ Gr w1 wr) (fun i _ => 4 - (intOf i).toNat)
  case atStart => exact ⟨0, Nat.zero_le _, rfl, fun j hj => by omega, Gr.same _⟩
  case round =>
    obtain ⟨k, hk, rfl, hw0, hg⟩ := hrel
    have HG := Lib.hid hg
    have H0 := Lib.hid hw0
    clear hg hw0
    have ⟨c10, c11, c12, c13, l1⟩ := (HB1.out.grow HG.out).four
    have ⟨c20, c21, f20, f21, l2⟩ := (HB2.out.grow HG.out).two
    have bb := HBB.out.grow HG.out
    have l3 := bb.lt
    match k, hk with
    | 4, _ =>
      clear bb
      have hz := Lib.hid (why_none H0.out)
      go_wp2
      go_ret
      exact ⟨congrArg (fun x => Ending.returned (.int .i64 x)) (hz.out.symm.trans HX.out), bgr HBW.out HBW.out.size HG.out⟩
    | 0, _ =>
      have d0 := bb.cell (i := 0) rfl
      have d1 := bb.cell (i := 1) rfl
      clear bb
      · have hr' : Sg.reason ⟨wit, lo, hi, false⟩ plo phi 0 = false := rfl
        have hx := Lib.hid (why0_succ H0.out hr')
        clear hr'
        go_wp2_with (go_at_call 133; obtain rfl := HW.out; refine ((isSlanted_any _ _ _ _ _ _ _ : Calls _ _ _ _ _)).mono ?_; rintro e w2 ⟨rfl, hb2⟩; obtain ⟨hc2, hf2, hz2⟩ := bcell hb2)
        exact ⟨⟨0 + 1, by omega, by first | rfl | go_num, hx.out, (HG.out.tr (Gr.alloc _ _)).tr hb2⟩, by simp [intOf]⟩
    | 1, _ =>
      have d0 := bb.cell (i := 2) rfl
      have d1 := bb.cell (i := 3) rfl
      clear bb
      by_cases hr : Sg.reason ⟨wit, lo, hi, false⟩ plo phi 1 = true
      · have hx := Lib.hid ((why_at (by omega) H0.out hr).symm.trans HX.out)
        have d2 : decide (hi < 0) = true := hr
        clear hr
        go_wp2_with (go_at_call 134; obtain rfl := HW.out; refine ((isBehind_any _ _ _ _ _ _ _ : Calls _ _ _ _ _)).mono ?_; rintro e w2 ⟨rfl, hb2⟩; obtain ⟨hc2, hf2, hz2⟩ := bcell hb2)
        go_ret
        exact ⟨congrArg (fun x => Ending.returned (.int .i64 x)) (by first | exact hx.out | simpa using hx.out), bgr (bgr (bgr HBW.out HBW.out.size HG.out) (bgr HBW.out HBW.out.size HG.out).size (Gr.alloc _ _)) (by have := (bgr HBW.out HBW.out.size HG.out).size; simp; omega) hb2⟩
      · have hr' : Sg.reason ⟨wit, lo, hi, false⟩ plo phi 1 = false := by simpa using hr
        have hx := Lib.hid (why0_succ H0.out hr')
        have d2 : decide (hi < 0) = false := hr'
        clear hr hr'
        go_wp2_with (go_at_call 134; obtain rfl := HW.out; refine ((isBehind_any _ _ _ _ _ _ _ : Calls _ _ _ _ _)).mono ?_; rintro e w2 ⟨rfl, hb2⟩; obtain ⟨hc2, hf2, hz2⟩ := bcell hb2)
        exact ⟨⟨1 + 1, by omega, by first | rfl | go_num, hx.out, (HG.out.tr (Gr.alloc _ _)).tr hb2⟩, by simp [intOf]⟩
    | 2, _ =>
      have d0 := bb.cell (i := 4) rfl
      have d1 := bb.cell (i := 5) rfl
      clear bb
      by_cases hr : Sg.reason ⟨wit, lo, hi, false⟩ plo phi 2 = true
      · have hx := Lib.hid ((why_at (by omega) H0.out hr).symm.trans HX.out)
        have d2 : Sg.tooNear ⟨wit, lo, hi, false⟩ phi = true := hr
        clear hr
        go_wp2_with (go_at_call 135; obtain rfl := HW.out; refine ((tooNear_any ⟨wit, lo, hi, false⟩ _ _ _ h : Calls _ _ _ _ _)).mono ?_; rintro e w2 ⟨rfl, hb2⟩; obtain ⟨hc2, hf2, hz2⟩ := bcell hb2)
        go_ret
        exact ⟨congrArg (fun x => Ending.returned (.int .i64 x)) (by first | exact hx.out | simpa using hx.out), bgr (bgr (bgr HBW.out HBW.out.size HG.out) (bgr HBW.out HBW.out.size HG.out).size (Gr.alloc _ _)) (by have := (bgr HBW.out HBW.out.size HG.out).size; simp; omega) hb2⟩
      · have hr' : Sg.reason ⟨wit, lo, hi, false⟩ plo phi 2 = false := by simpa using hr
        have hx := Lib.hid (why0_succ H0.out hr')
        have d2 : Sg.tooNear ⟨wit, lo, hi, false⟩ phi = false := hr'
        clear hr hr'
        go_wp2_with (go_at_call 135; obtain rfl := HW.out; refine ((tooNear_any ⟨wit, lo, hi, false⟩ _ _ _ h : Calls _ _ _ _ _)).mono ?_; rintro e w2 ⟨rfl, hb2⟩; obtain ⟨hc2, hf2, hz2⟩ := bcell hb2)
        exact ⟨⟨2 + 1, by omega, by first | rfl | go_num, hx.out, (HG.out.tr (Gr.alloc _ _)).tr hb2⟩, by simp [intOf]⟩
    | 3, _ =>
      have d0 := bb.cell (i := 6) rfl
      have d1 := bb.cell (i := 7) rfl
      clear bb
      by_cases hr : Sg.reason ⟨wit, lo, hi, false⟩ plo phi 3 = true
      · have hx := Lib.hid ((why_at (by omega) H0.out hr).symm.trans HX.out)
        have d2 : decide ((Sg.pw ⟨wit, lo, hi, false⟩).2 < plo) = true := hr
        clear hr
        go_wp2_with (go_at_call 136; obtain rfl := HW.out; refine ((tooFar_any ⟨wit, lo, hi, false⟩ _ _ _ h : Calls _ _ _ _ _)).mono ?_; rintro e w2 ⟨rfl, hb2⟩; obtain ⟨hc2, hf2, hz2⟩ := bcell hb2)
        go_ret
        exact ⟨congrArg (fun x => Ending.returned (.int .i64 x)) (by first | exact hx.out | simpa using hx.out), bgr (bgr (bgr HBW.out HBW.out.size HG.out) (bgr HBW.out HBW.out.size HG.out).size (Gr.alloc _ _)) (by have := (bgr HBW.out HBW.out.size HG.out).size; simp; omega) hb2⟩
      · have hr' : Sg.reason ⟨wit, lo, hi, false⟩ plo phi 3 = false := by simpa using hr
        have hx := Lib.hid (why0_succ H0.out hr')
        have d2 : decide ((Sg.pw ⟨wit, lo, hi, false⟩).2 < plo) = false := hr'
        clear hr hr'
        go_wp2_with (go_at_call 136; obtain rfl := HW.out; refine ((tooFar_any ⟨wit, lo, hi, false⟩ _ _ _ h : Calls _ _ _ _ _)).mono ?_; rintro e w2 ⟨rfl, hb2⟩; obtain ⟨hc2, hf2, hz2⟩ := bcell hb2)
        exact ⟨⟨3 + 1, by omega, by first | rfl | go_num, hx.out, (HG.out.tr (Gr.alloc _ _)).tr hb2⟩, by simp [intOf]⟩
theorem why_any (s : Sg) (plo phi : Int) (w : World) (h : s.ok) : Calls Try.prog 88 #[s.val, .agg #[.int .i64 plo, .int .i64 phi]] w fun e w' => e = .returned (.int .i64 (s.why plo phi)) ∧ Below w.heap.size w w' := by
  obtain ⟨wit, lo, hi, sl⟩ := s
  cases sl with
  | true => exact why_true wit lo hi plo phi w h
  | false => exact why_false wit lo hi plo phi w h
end Go.Proofs.Ytjlaoiimbhlafaa.Pq
