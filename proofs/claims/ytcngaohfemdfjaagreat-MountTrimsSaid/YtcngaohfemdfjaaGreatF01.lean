import Derived.Test.YtcngaohfemdfjaaGreatF00
import Derived.WalkLawsBesides
import Derived.WalkSpells
import Derived.Deep.DeepCutAuto
set_option linter.unusedVariables false
set_option linter.unusedSimpArgs false
set_option maxRecDepth 100000
set_option maxHeartbeats 60000000
namespace Go.Proofs.YtcngaohfemdfjaaGreat
open Go.RowKit
theorem span_any (lo hi : Int) (w : World) :
    Calls Tryz.prog 83 #[.int .i64 lo, .int .i64 hi] w fun e w' => e = .returned (.agg #[.int .i64 lo, .int .i64 hi]) ∧ Below w.heap.size w w' := by
  go_enter Tryz.func83, Tryz.ntmps83
  go_wp2
  exact bodyPost_ret (v := .agg #[.int .i64 lo, .int .i64 hi]) (by simp [results, Tryz.results83, go_sem]) rfl ⟨rfl, by
    exact ((Below.refl _ _).alloc (Nat.le_refl _) _)⟩
theorem empty_any (lo hi : Int) (w : World) :
    Calls Tryz.prog 116 #[.agg #[.int .i64 lo, .int .i64 hi]] w fun e w' => e = .returned (.bool (decide (hi < lo))) ∧ Below w.heap.size w w' := by
  go_enter Tryz.func116, Tryz.ntmps116
  go_wp2
  go_ret
  exact ⟨rfl, (Below.refl _ _).alloc (Nat.le_refl _) _⟩
theorem inside_any (n lo hi : Int) (w : World) :
    Calls Tryz.prog 82 #[.int .i64 n, .agg #[.int .i64 lo, .int .i64 hi]] w fun e w' => e = .returned (.bool (decide (lo ≤ n) && decide (n ≤ hi))) ∧ Below w.heap.size w w' := by
  by_cases h : lo ≤ n
  · have h' : decide (lo ≤ n) = true := by simpa using h
    go_enter Tryz.func82, Tryz.ntmps82
    go_wp2
    go_ret
    exact ⟨by simp [h], (Below.refl _ _).alloc (Nat.le_refl _) _⟩
  · have h' : decide (lo ≤ n) = false := by simpa using h
    go_enter Tryz.func82, Tryz.ntmps82
    go_wp2
    go_ret
    exact ⟨by simp, (Below.refl _ _).alloc (Nat.le_refl _) _⟩
theorem nothing_any (w : World) :
    Calls Tryz.prog 151 #[] w fun e w' => e = .returned (.agg #[.int .i64 1, .int .i64 0]) ∧ Below w.heap.size w w' := by
  go_enter Tryz.func151, Tryz.ntmps151
  go_wp2_with (go_at_call 83; refine (span_any _ _ _).mono ?_; rintro e w1 ⟨rfl, hb⟩; obtain ⟨hc, hf, hz⟩ := bcell hb)
  exact bodyPost_ret (v := .agg #[.int .i64 1, .int .i64 0]) (by simp [results, Tryz.results151, go_sem, hc]) rfl ⟨rfl, by
    exact ((((Below.refl _ _).alloc (Nat.le_refl _) _).trans (hb.mono (by simp))).setCell (by simp) _).setCell (by simp) _⟩
def SpansAt (l : List (Int × Int)) (v : Value) (w : World) : Prop :=
  ∃ b o cap, v = .slice (some ⟨b, o, none⟩) l.length cap ∧ b < w.heap.size ∧ l.length ≤ 1000 ∧
    ∀ i, i < l.length → w.cell? ⟨b, o + i * 2, none⟩ = some (.int .i64 (l.getD i (0,0)).1) ∧ w.cell? ⟨b, o + i * 2 + 1, none⟩ = some (.int .i64 (l.getD i (0,0)).2)
theorem SpansAt.lasts (l : List (Int × Int)) : Lasts (SpansAt l) := fun v W W' ⟨b, o, cap, h1, h2, h3, h4⟩ hG =>
  ⟨b, o, cap, h1, (bcell hG).2.2 _ h2, h3, fun i hi => by rw [(bcell hG).1 _ _ h2, (bcell hG).1 _ _ h2]; exact h4 i hi⟩
theorem SpansAt.one (x y : Int) (W : World) (T : TypeId) : SpansAt [(x, y)] (.slice (some ⟨W.heap.size, 0, none⟩) 1 1) (W.alloc (.cells #[.int .i64 x, .int .i64 y] T)) :=
  ⟨W.heap.size, 0, 1, rfl, by simp, by simp, fun i hi => by
    have : i = 0 := by simp at hi; omega
    subst this
    exact ⟨by simp [go_sem], by simp [go_sem]⟩⟩
def ovl (s o : Int × Int) : Int × Int := (if s.1 < o.1 then o.1 else s.1, if o.2 < s.2 then o.2 else s.2)
theorem foldl_snoc (l : List (Int × Int)) (k : Nat) (h : k < l.length) (a : Int × Int) : (l.take (k + 1)).foldl ovl a = ovl ((l.take k).foldl ovl a) (l.getD k (0, 0)) := by
  rw [List.take_succ_eq_append_getElem h, List.foldl_append]
  simp [h]
theorem overlap_any (lo hi : Int) (v : Value) (l : List (Int × Int)) (w : World) (h : SpansAt l v w) :
    Calls Tryz.prog 119 #[.agg #[.int .i64 lo, .int .i64 hi], v] w fun e w' => e = .returned (.agg #[.int .i64 (l.foldl ovl (lo, hi)).1, .int .i64 (l.foldl ovl (lo, hi)).2]) ∧ Below w.heap.size w w' := by
  obtain ⟨b, o, cap, rfl, hb, hlen, hc⟩ := h
  go_enter Tryz.func119, Tryz.ntmps119
  go_wp2
  have hal := @cal
  have hfl := @fal
  go_loopw [9] (fun i wr => ∃ k : Nat, k ≤ l.length ∧ i = .int .i64 k ∧ Below w.heap.size w wr ∧ ∃ T T', Box wr w.heap.size [.int .i64 ((l.take k).foldl ovl (lo, hi)).1, .int .i64 ((l.take k).foldl ovl (lo, hi)).2] T ∧ Box wr (w.heap.size + 1) [.int .i64 0, .int .i64 0] T') (fun i _ => l.length - (intOf i).toNat)
  case atStart =>
    exact ⟨0, Nat.zero_le _, rfl, ((Below.refl _ _).alloc (Nat.le_refl _) _).alloc (by simp) _, 23, 23, (Box.fresh w _ _).grow (Gr.alloc _ _), by
      have := Box.fresh (w.alloc (Obj.cells #[Value.int IntKind.i64 lo, Value.int IntKind.i64 hi] 23)) [.int .i64 0, .int .i64 0] 23
      simpa using this⟩
  case round =>
    obtain ⟨k, hk, rfl, hB, T, T', b1, b2⟩ := hrel
    have ⟨c10, c11, f10, f11, l1⟩ := b1.two
    have ⟨c20, c21, f20, f21, l2⟩ := b2.two
    by_cases hlt : k < l.length
    · have hbb : b < wr.heap.size := Nat.lt_of_lt_of_le hb hB.size
      have ⟨hx, hy⟩ := hc k hlt
      rw [← hB.cell (p := ⟨b, _, none⟩) hb] at hx hy
      have hs := foldl_snoc l k hlt (lo, hi)
      generalize hp : l.getD k (0, 0) = p at *
      generalize hq : (l.take k).foldl ovl (lo, hi) = q at *
      have HS := Lib.hid hs
      have HP := Lib.hid hp
      have HQ := Lib.hid hq
      clear hs hp hq hc
      have HB1 := Lib.hid b1
      have HB2 := Lib.hid b2
      clear b1 b2
      go_wp2_with (go_at_call 83; refine (span_any _ _ _).mono ?_; rintro e w1 ⟨rfl, hb1⟩; obtain ⟨hc1, hf1, hz1⟩ := bcell hb1)
      have b1 := (HB1.out.grow (Gr.alloc wr (Obj.cells #[Value.int IntKind.i64 p.fst, Value.int IntKind.i64 p.snd] 23))).grow hb1
      have b2 := (HB2.out.grow (Gr.alloc wr (Obj.cells #[Value.int IntKind.i64 p.fst, Value.int IntKind.i64 p.snd] 23))).grow hb1
      refine ⟨⟨k + 1, by omega, by go_num, ((bgr (bgr hB hB.size (Gr.alloc _ _)) (by simp; omega) hb1).setCell (by simp) _).setCell (by simp) _, T, T', ?_, ?_⟩, by simp [intOf]; omega⟩
      · rw [HS.out]
        exact (b1.put 0 _).put 1 _
      · exact (b2.other (by omega) _ _).other (by omega) _ _
    · have : k = l.length := by omega
      subst this
      rw [List.take_length] at *
      go_wp2
      exact bodyPost_ret (v := .agg #[.int .i64 (l.foldl ovl (lo, hi)).1, .int .i64 (l.foldl ovl (lo, hi)).2]) (by simp [results, Tryz.results119, go_sem, *]) rfl ⟨rfl, (hB.setCell (by simp) _).setCell (by simp) _⟩
theorem steady_any (wit : Value) (lo hi : Int) (sl : Bool) (w : World) :
    Calls Tryz.prog 87 #[.agg #[wit, .int .i64 lo, .int .i64 hi, .bool sl]] w fun e w' => e = .returned (.agg #[.int .i64 (ovl (lo, hi) (0, 2000)).1, .int .i64 (ovl (lo, hi) (0, 2000)).2]) ∧ Below w.heap.size w w' := by
  go_enter Tryz.func87, Tryz.ntmps87
  go_wp2
  refine region2 5 ?_ ?_ ?_
  · kernel_rfl
  · kernel_rfl
  simp only [List.take_succ_cons, List.take_zero, List.drop_succ_cons, List.drop_zero]
  apply ceq (D := [(1, none)]) rfl (by kernel_rfl)
  · intro ρ W ⟨p1,p2,p3⟩ hG hF K hK; (try simp [FD] at hF); have ⟨hc, hf, hz⟩ := bcell hG; go_simp; exact hK _ gv
  apply ceq (D := [(3, some 0)]) rfl (by kernel_rfl)
  · intro ρ W ⟨p1,p2,p3⟩ hG hF K hK; (try simp [FD] at hF); have ⟨hc, hf, hz⟩ := bcell hG; go_simp; exact hK _ gv
  apply ceq (D := []) rfl (by kernel_rfl)
  · intro ρ W ⟨p1,p2,p3⟩ hG hF K hK; (try simp [FD] at hF); have ⟨hc, hf, hz⟩ := bcell hG; go_simp; exact hK _ (gc (span_any _ _ _))
  refine cny (V := SpansAt [(0, 2000)]) (D := [(5, some 0)]) rfl (by kernel_rfl) (SpansAt.lasts _) ?_ ?_
  · intro ρ W ⟨p1,p2,p3⟩ hG hF K hK; (try simp [FD] at hF); have ⟨hc, hf, hz⟩ := bcell hG; go_simp; exact hK _ (⟨SpansAt.one _ _ _ _, Gr.alloc _ _⟩)
  apply ceq (D := [(4, some 2), (6, some 0)]) rfl (by kernel_rfl)
  · intro ρ W ⟨p1,p2,p3⟩ hG hF K hK; (try simp [FD] at hF); have ⟨hc, hf, hz⟩ := bcell hG; obtain ⟨hF1, hF2⟩ := hF; go_simp; exact hK _ (gc (overlap_any _ _ _ _ _ hF2))
  refine cdn ?_
  intro vs W hG hV
  obtain ⟨e4, -⟩ := hV
  simp only [Nat.reduceSub] at e4
  simp only [lay, Act.put, List.getElem?_toArray, List.getElem?_cons_succ, List.getElem?_cons_zero, Option.bind_some, List.setIfInBounds_toArray, List.set_cons_succ, List.set_cons_zero]
  generalize vs 0 = v0, vs 1 = v1, vs 2 = v2, vs 3 = v3
  generalize vs 4 = v4 at *
  subst e4
  obtain ⟨hc, hf, hz⟩ := bcell hG
  go_wp2
  exact bodyPost_ret (v := .agg #[.int .i64 (ovl (lo, hi) (0, 2000)).1, .int .i64 (ovl (lo, hi) (0, 2000)).2]) (by simp [results, Tryz.results87, go_sem, hc]) rfl ⟨rfl, (((bgr (((Below.refl _ _).alloc (by first | (simp <;> omega) | omega) _).alloc (by first | (simp <;> omega) | omega) _) (by first | (simp <;> omega) | omega) hG).setCell (by first | (simp <;> omega) | omega) _).setCell (by first | (simp <;> omega) | omega) _)⟩
def imin (a b : Int) : Int := if b < a then b else a
def imax (a b : Int) : Int := if a < b then b else a
theorem isSlanted_any (wit : Value) (lo hi plo phi : Int) (sl : Bool) (w : World) :
    Calls Tryz.prog 142 #[.agg #[wit, .int .i64 lo, .int .i64 hi, .bool sl], .agg #[.int .i64 plo, .int .i64 phi]] w fun e w' => e = .returned (.bool sl) ∧ Below w.heap.size w w' := by
  go_enter Tryz.func142, Tryz.ntmps142
  go_wp2
  go_ret
  exact ⟨rfl, ((Below.refl _ _).alloc (Nat.le_refl _) _).alloc (by simp) _⟩
theorem isBehind_any (wit : Value) (lo hi plo phi : Int) (sl : Bool) (w : World) :
    Calls Tryz.prog 143 #[.agg #[wit, .int .i64 lo, .int .i64 hi, .bool sl], .agg #[.int .i64 plo, .int .i64 phi]] w fun e w' => e = .returned (.bool (decide (hi < 0))) ∧ Below w.heap.size w w' := by
  go_enter Tryz.func143, Tryz.ntmps143
  go_wp2
  go_ret
  exact ⟨rfl, ((Below.refl _ _).alloc (Nat.le_refl _) _).alloc (by simp) _⟩
theorem mulb {a b : Int} (h0 : -20000 ≤ a) (h1 : a ≤ 20000) (h2 : 0 ≤ b) (h3 : b ≤ 1073741824) : -21474836480000 ≤ a * b ∧ a * b ≤ 21474836480000 := by
  constructor
  · have : -20000 * b ≤ a * b := Int.mul_le_mul_of_nonneg_right h0 h2
    omega
  · have : a * b ≤ 20000 * b := Int.mul_le_mul_of_nonneg_right h1 h2
    omega
theorem markPowers_any (m lo hi : Int) (w : World) (h0 : -10000 ≤ lo) (h1 : lo ≤ 10000) (h2 : -10000 ≤ hi) (h3 : hi ≤ 10000) (h4 : 0 ≤ m) (h5 : m ≤ 1073741824) :
    Calls Tryz.prog 180 #[.int .i64 m, .agg #[.int .i64 lo, .int .i64 hi]] w fun e w' => e = .returned (.agg #[.int .i64 (lo * m), .int .i64 ((hi + 1) * m - 1)]) ∧ Below w.heap.size w w' := by
  obtain ⟨m0, m1⟩ := mulb (a := lo) (b := m) (by omega) (by omega) h4 h5
  obtain ⟨m2, m3⟩ := mulb (a := hi + 1) (b := m) (by omega) (by omega) h4 h5
  go_enter Tryz.func180, Tryz.ntmps180
  go_wp2_with (go_at_call 83; refine (span_any _ _ _).mono ?_; rintro e w1 ⟨rfl, hb1⟩; obtain ⟨hc1, hf1, hz1⟩ := bcell hb1)
  exact bodyPost_ret (v := .agg #[.int .i64 (lo * m), .int .i64 ((hi + 1) * m - 1)]) (by simp [results, Tryz.results180, go_sem, hc1]) rfl ⟨rfl, (((bgr (((Below.refl _ _).alloc (by first | (simp <;> omega) | omega) _).alloc (by first | (simp <;> omega) | omega) _) (by first | (simp <;> omega) | omega) hb1).setCell (by first | (simp <;> omega) | omega) _).setCell (by first | (simp <;> omega) | omega) _)⟩
theorem farPowers_any (near far lo hi : Int) (w : World) (h0 : -10000 ≤ lo) (h1 : lo ≤ 10000) (h2 : -10000 ≤ hi) (h3 : hi ≤ 10000) (h4 : 0 ≤ near) (h5 : near ≤ 1073741824) (h6 : 0 ≤ far) (h7 : far ≤ 1073741824) :
    Calls Tryz.prog 178 #[.agg #[.int .i64 near, .int .i64 far], .agg #[.int .i64 lo, .int .i64 hi]] w fun e w' => e = .returned (.agg #[.int .i64 (lo * near), .int .i64 ((hi + 1) * far - 1)]) ∧ Below w.heap.size w w' := by
  obtain ⟨m0, m1⟩ := mulb (a := lo) (b := near) (by omega) (by omega) h4 h5
  obtain ⟨m2, m3⟩ := mulb (a := hi + 1) (b := far) (by omega) (by omega) h6 h7
  go_enter Tryz.func178, Tryz.ntmps178
  go_wp2_with (go_at_call 83; refine (span_any _ _ _).mono ?_; rintro e w1 ⟨rfl, hb1⟩; obtain ⟨hc1, hf1, hz1⟩ := bcell hb1)
  exact bodyPost_ret (v := .agg #[.int .i64 (lo * near), .int .i64 ((hi + 1) * far - 1)]) (by simp [results, Tryz.results178, go_sem, hc1]) rfl ⟨rfl, (((bgr ((((Below.refl _ _).alloc (by first | (simp <;> omega) | omega) _).alloc (by first | (simp <;> omega) | omega) _).alloc (by first | (simp <;> omega) | omega) _) (by first | (simp <;> omega) | omega) hb1).setCell (by first | (simp <;> omega) | omega) _).setCell (by first | (simp <;> omega) | omega) _)⟩
theorem mspan_any (lo hi : Int) (w : World) :
    Calls Tryz.prog 58 #[.int .i64 lo, .int .i64 hi] w fun e w' => e = .returned (.agg #[.int .i64 lo, .int .i64 hi]) ∧ Below w.heap.size w w' := by
  go_enter Tryz.func58, Tryz.ntmps58
  go_wp2
  exact bodyPost_ret (v := .agg #[.int .i64 lo, .int .i64 hi]) (by simp [results, Tryz.results58, go_sem]) rfl ⟨rfl, by
    exact ((Below.refl _ _).alloc (Nat.le_refl _) _)⟩
theorem minside_any (n lo hi : Int) (w : World) :
    Calls Tryz.prog 120 #[.int .i64 n, .agg #[.int .i64 lo, .int .i64 hi]] w fun e w' => e = .returned (.bool (decide (lo ≤ n) && decide (n ≤ hi))) ∧ Below w.heap.size w w' := by
  by_cases h : lo ≤ n
  · have h' : decide (lo ≤ n) = true := by simpa using h
    go_enter Tryz.func120, Tryz.ntmps120
    go_wp2
    go_ret
    exact ⟨by simp [h], (Below.refl _ _).alloc (Nat.le_refl _) _⟩
  · have h' : decide (lo ≤ n) = false := by simpa using h
    go_enter Tryz.func120, Tryz.ntmps120
    go_wp2
    go_ret
    exact ⟨by simp, (Below.refl _ _).alloc (Nat.le_refl _) _⟩
def IntsAt (l : List Int) (v : Value) (w : World) : Prop :=
  ∃ b o cap, v = .slice (some ⟨b, o, none⟩) l.length cap ∧ b < w.heap.size ∧ l.length ≤ 1000 ∧
    ∀ i, i < l.length → w.cell? ⟨b, o + i, none⟩ = some (.int .i64 (l.getD i 0))
theorem IntsAt.lasts (l : List Int) : Lasts (IntsAt l) := fun v W W' ⟨b, o, cap, h1, h2, h3, h4⟩ hG =>
  ⟨b, o, cap, h1, (bcell hG).2.2 _ h2, h3, fun i hi => by rw [(bcell hG).1 _ _ h2]; exact h4 i hi⟩
theorem IntsAt.new (l : List Int) (W : World) (T : TypeId) (hl : l.length ≤ 1000) : IntsAt l (.slice (some ⟨W.heap.size, 0, none⟩) l.length l.length) (W.alloc (.cells (l.map (Value.int .i64)).toArray T)) :=
  ⟨W.heap.size, 0, l.length, rfl, by simp, hl, fun i hi => by
    have := (Box.fresh W (l.map (Value.int .i64)) T).cell (i := i) (x := .int .i64 (l.getD i 0)) (by simp [hi])
    simpa using this⟩
theorem foldl_take (f : Int → Int → Int) (l : List Int) (k : Nat) (h : k < l.length) (a : Int) : (l.take (k + 1)).foldl f a = f ((l.take k).foldl f a) (l.getD k 0) := by
  rw [List.take_succ_eq_append_getElem h, List.foldl_append]
  simp [h]
theorem least_any (x : Int) (v : Value) (l : List Int) (w : World) (h : IntsAt l v w) :
    Calls Tryz.prog 127 #[.int .i64 x, v] w fun e w' => e = .returned (.int .i64 (l.foldl imin x)) ∧ Below w.heap.size w w' := by
  obtain ⟨b, o, cap, rfl, hb, hlen, hc⟩ := h
  go_enter Tryz.func127, Tryz.ntmps127
  go_wp2
  go_loopw [0, 9] (fun a i wr => ∃ k : Nat, k ≤ l.length ∧ i = .int .i64 k ∧ a = .int .i64 ((l.take k).foldl imin x) ∧ wr = w) (fun _ i _ => l.length - (intOf i).toNat)
  case atStart => exact ⟨0, Nat.zero_le _, rfl, rfl, rfl⟩
  case round =>
    obtain ⟨k, hk, rfl, rfl, rfl⟩ := hrel
    by_cases hlt : k < l.length
    · have hx := hc k hlt
      have HS := Lib.hid (foldl_take imin l k hlt x)
      generalize l.getD k 0 = p at *
      generalize (l.take k).foldl imin x = q at *
      have hq : imin q p = if p < q then p else q := rfl
      by_cases hpq : p < q
      · rw [if_pos hpq] at hq
        have HQ := Lib.hid hq
        clear hc hq
        go_wp2
        exact ⟨⟨k + 1, by omega, by go_num, by rw [HS.out, HQ.out], trivial⟩, by simp [intOf]; omega⟩
      · rw [if_neg hpq] at hq
        have HQ := Lib.hid hq
        clear hc hq
        go_wp2
        exact ⟨⟨k + 1, by omega, by go_num, by rw [HS.out, HQ.out], trivial⟩, by simp [intOf]; omega⟩
    · have : k = l.length := by omega
      subst this
      rw [List.take_length] at *
      go_wp2
      go_ret
      exact ⟨rfl, Below.refl _ _⟩
theorem greatest_any (x : Int) (v : Value) (l : List Int) (w : World) (h : IntsAt l v w) :
    Calls Tryz.prog 126 #[.int .i64 x, v] w fun e w' => e = .returned (.int .i64 (l.foldl imax x)) ∧ Below w.heap.size w w' := by
  obtain ⟨b, o, cap, rfl, hb, hlen, hc⟩ := h
  go_enter Tryz.func126, Tryz.ntmps126
  go_wp2
  go_loopw [0, 9] (fun a i wr => ∃ k : Nat, k ≤ l.length ∧ i = .int .i64 k ∧ a = .int .i64 ((l.take k).foldl imax x) ∧ wr = w) (fun _ i _ => l.length - (intOf i).toNat)
  case atStart => exact ⟨0, Nat.zero_le _, rfl, rfl, rfl⟩
  case round =>
    obtain ⟨k, hk, rfl, rfl, rfl⟩ := hrel
    by_cases hlt : k < l.length
    · have hx := hc k hlt
      have HS := Lib.hid (foldl_take imax l k hlt x)
      generalize l.getD k 0 = p at *
      generalize (l.take k).foldl imax x = q at *
      have hq : imax q p = if q < p then p else q := rfl
      by_cases hpq : q < p
      · rw [if_pos hpq] at hq
        have HQ := Lib.hid hq
        clear hc hq
        go_wp2
        exact ⟨⟨k + 1, by omega, by go_num, by rw [HS.out, HQ.out], trivial⟩, by simp [intOf]; omega⟩
      · rw [if_neg hpq] at hq
        have HQ := Lib.hid hq
        clear hc hq
        go_wp2
        exact ⟨⟨k + 1, by omega, by go_num, by rw [HS.out, HQ.out], trivial⟩, by simp [intOf]; omega⟩
    · have : k = l.length := by omega
      subst this
      rw [List.take_length] at *
      go_wp2
      go_ret
      exact ⟨rfl, Below.refl _ _⟩
theorem isNaN_any (x : Int) (w : World) :
    Calls Tryz.prog 149 #[.int .i64 x] w fun e w' => e = .returned (.bool false) ∧ Below w.heap.size w w' := by
  go_enter Tryz.func149, Tryz.ntmps149
  go_wp2
  go_ret
  exact ⟨by simp, Below.refl _ _⟩
def icmp (x y : Int) : Int := if x < y then -1 else if y < x then 1 else 0
theorem compare_any (x y : Int) (w : World) :
    Calls Tryz.prog 134 #[.int .i64 x, .int .i64 y] w fun e w' => e = .returned (.int .i64 (icmp x y)) ∧ Below w.heap.size w w' := by
  by_cases h1 : x < y
  · have e : icmp x y = -1 := by unfold icmp; rw [if_pos h1]
    rw [e]
    have h1' : decide (x < y) = true := by simpa using h1
    clear e
    go_enter Tryz.func134, Tryz.ntmps134
    go_wp2_with (go_at_call 149; refine (isNaN_any _ _).mono ?_; rintro e w1 ⟨rfl, hb1⟩)
    go_ret
    exact ⟨rfl, Below.trans ‹Below w.heap.size w _› (hb1.mono (Below.size ‹Below w.heap.size w _›))⟩
  · have h1' : decide (x < y) = false := by simpa using h1
    by_cases h2 : y < x
    · have e : icmp x y = 1 := by unfold icmp; rw [if_neg h1, if_pos h2]
      rw [e]
      have h2' : decide (y < x) = true := by simpa using h2
      clear e
      go_enter Tryz.func134, Tryz.ntmps134
      go_wp2_with (go_at_call 149; refine (isNaN_any _ _).mono ?_; rintro e w1 ⟨rfl, hb1⟩)
      go_ret
      exact ⟨rfl, Below.trans ‹Below w.heap.size w _› (hb1.mono (Below.size ‹Below w.heap.size w _›))⟩
    · have e : icmp x y = 0 := by unfold icmp; rw [if_neg h1, if_neg h2]
      rw [e]
      have h2' : decide (y < x) = false := by simpa using h2
      clear e
      go_enter Tryz.func134, Tryz.ntmps134
      go_wp2_with (go_at_call 149; refine (isNaN_any _ _).mono ?_; rintro e w1 ⟨rfl, hb1⟩)
      go_ret
      exact ⟨rfl, Below.trans ‹Below w.heap.size w _› (hb1.mono (Below.size ‹Below w.heap.size w _›))⟩
end Go.Proofs.YtcngaohfemdfjaaGreat
