import Derived.Test.YtofdoadpaedogaaT6
namespace Go.Proofs.Ytofdoadpaedogaa
open Go.RowKit


inductive Wit where
  | mark (m : Int)
  | far (n f : Int)
def Wit.val : Wit → Value
  | .mark m => .iface 130 (.int .i64 m)
  | .far n f => .iface 129 (.agg #[.int .i64 n, .int .i64 f])
def Wit.powers : Wit → Int × Int → Int × Int
  | .mark m, s => (s.1 * m, (s.2 + 1) * m - 1)
  | .far n f, s => (s.1 * n, (s.2 + 1) * f - 1)
def Wit.ok : Wit → Prop
  | .mark m => 0 ≤ m ∧ m ≤ 1073741824
  | .far n f => 0 ≤ n ∧ n ≤ 1073741824 ∧ 0 ≤ f ∧ f ≤ 1073741824
structure Sg where
  wit : Wit
  lo : Int
  hi : Int
  sl : Bool
def Sg.val (s : Sg) : Value := .agg #[s.wit.val, .int .i64 s.lo, .int .i64 s.hi, .bool s.sl]
def Sg.ok (s : Sg) : Prop := s.wit.ok ∧ -8000 ≤ s.lo ∧ s.lo ≤ 8000 ∧ -8000 ≤ s.hi ∧ s.hi ≤ 8000
def Sg.st (s : Sg) : Int × Int := ovl (s.lo, s.hi) (0, 2000)
theorem Sg.st_in {s : Sg} (h : s.ok) : -10000 ≤ s.st.1 ∧ s.st.1 ≤ 10000 ∧ -10000 ≤ s.st.2 ∧ s.st.2 ≤ 10000 := by
  obtain ⟨_, h1, h2, h3, h4⟩ := h
  unfold Sg.st ovl
  simp only
  refine ⟨?_, ?_, ?_, ?_⟩ <;> split <;> omega
/-- The powers with which it stands still. -/
def Sg.pw (s : Sg) : Int × Int := s.wit.powers s.st
/-- The same, an empty span if it is slanted. -/
def Sg.spw (s : Sg) : Int × Int := if s.sl then (1, 0) else s.pw

theorem me_mark_powers (m : Int) (w : World) : (method 251 130 (.int .i64 m) "pairworks/pair.powers").run Try.prog w = .ok (122, .int .i64 m) w := by kernel_rfl
theorem me_far_powers (n f : Int) (w : World) : (method 251 129 (.agg #[.int .i64 n, .int .i64 f]) "pairworks/pair.powers").run Try.prog w = .ok (120, .agg #[.int .i64 n, .int .i64 f]) w := by kernel_rfl
theorem me_mark_distances (m : Int) (w : World) : (method 251 130 (.int .i64 m) "pairworks/pair.distances").run Try.prog w = .ok (121, .int .i64 m) w := by kernel_rfl
theorem me_far_distances (n f : Int) (w : World) : (method 251 129 (.agg #[.int .i64 n, .int .i64 f]) "pairworks/pair.distances").run Try.prog w = .ok (119, .agg #[.int .i64 n, .int .i64 f]) w := by kernel_rfl
set_option maxHeartbeats 400000 in
theorem steadyPower_mark (m : Int) (lo hi : Int) (w : World) (b : -10000 ≤ (ovl (lo, hi) (0, 2000)).1 ∧ (ovl (lo, hi) (0, 2000)).1 ≤ 10000 ∧ -10000 ≤ (ovl (lo, hi) (0, 2000)).2 ∧ (ovl (lo, hi) (0, 2000)).2 ≤ 10000) (h4 : 0 ≤ m) (h5 : m ≤ 1073741824) :
    Calls Try.prog 92 #[.agg #[.iface 130 (.int .i64 m), .int .i64 lo, .int .i64 hi, .bool false]] w fun e w' => e = .returned (.agg #[.int .i64 ((ovl (lo, hi) (0, 2000)).1 * m), .int .i64 (((ovl (lo, hi) (0, 2000)).2 + 1) * m - 1)]) ∧ Below w.heap.size w w' := by
  obtain ⟨b0, b1, b2, b3⟩ := b
  have hme := fun w => me_mark_powers m w
  go_enter Try.func92, Try.ntmps92
  go_wp2
  refine region2 7 ?_ ?_ ?_
  · kernel_rfl
  · kernel_rfl
  simp only [List.take_succ_cons, List.take_zero, List.drop_succ_cons, List.drop_zero]
  apply chain_eq (D := [(1, none)]) rfl (by kernel_rfl)
  · intro ρ W ⟨p1, p2, p3⟩ hG hF K hK; (try simp [FactsD] at hF); have ⟨hc, hf, hz⟩ := bcell hG; go_simp; exact hK _ (gives_val)
  apply chain_eq (D := [(6, some 0)]) rfl (by kernel_rfl)
  · intro ρ W ⟨p1, p2, p3⟩ hG hF K hK; (try simp [FactsD] at hF); have ⟨hc, hf, hz⟩ := bcell hG; go_simp; exact hK _ (gives_val)
  apply chain_eq (D := [(1, none)]) rfl (by kernel_rfl)
  · intro ρ W ⟨p1, p2, p3⟩ hG hF K hK; (try simp [FactsD] at hF); have ⟨hc, hf, hz⟩ := bcell hG; go_simp; exact hK _ (gives_val)
  apply chain_eq (D := [(8, some 0)]) rfl (by kernel_rfl)
  · intro ρ W ⟨p1, p2, p3⟩ hG hF K hK; (try simp [FactsD] at hF); have ⟨hc, hf, hz⟩ := bcell hG; go_simp; exact hK _ (gives_call (steady_any _ _ _ _ _))
  apply chain_eq (D := [(7, some 2)]) rfl (by kernel_rfl)
  · intro ρ W ⟨p1, p2, p3⟩ hG hF K hK; (try simp [FactsD] at hF); have ⟨hc, hf, hz⟩ := bcell hG; go_simp; exact hK _ (gives_val)
  apply chain_eq (D := [(7, some 3)]) rfl (by kernel_rfl)
  · intro ρ W ⟨p1, p2, p3⟩ hG hF K hK; (try simp [FactsD] at hF); have ⟨hc, hf, hz⟩ := bcell hG; go_simp; exact hK _ (gives_val)
  apply chain_eq (D := [(11, some 0), (9, some 2)]) rfl (by kernel_rfl)
  · intro ρ W ⟨p1, p2, p3⟩ hG hF K hK; (try simp [FactsD] at hF); have ⟨hc, hf, hz⟩ := bcell hG; go_simp; exact hK _ (gives_call (markPowers_any _ _ _ _ b0 b1 b2 b3 h4 h5))
  refine chain_done ?_
  intro vs W hG hV
  obtain ⟨e6, -⟩ := hV
  simp only [Nat.reduceSub] at e6
  simp only [lay, Act.put, List.getElem?_toArray, List.getElem?_cons_succ, List.getElem?_cons_zero, Option.bind_some, List.setIfInBounds_toArray, List.set_cons_succ, List.set_cons_zero]
  generalize vs 0 = v0
  generalize vs 1 = v1
  generalize vs 2 = v2
  generalize vs 3 = v3
  generalize vs 4 = v4
  generalize vs 5 = v5
  generalize vs 6 = v6 at *
  subst e6
  obtain ⟨hc, hf, hz⟩ := bcell hG
  go_wp2
  exact bodyPost_ret (v := .agg #[.int .i64 ((ovl (lo, hi) (0, 2000)).1 * m), .int .i64 (((ovl (lo, hi) (0, 2000)).2 + 1) * m - 1)]) (by simp [results, Try.results92, go_sem, hc]) rfl ⟨rfl, (((bgr (((Below.refl _ _).alloc (by first | (simp; done) | (simp; omega) | omega) _).alloc (by first | (simp; done) | (simp; omega) | omega) _) (by first | (simp; done) | (simp; omega) | omega) hG).setCell (by first | (simp; done) | (simp; omega) | omega) _).setCell (by first | (simp; done) | (simp; omega) | omega) _)⟩
set_option maxHeartbeats 400000 in
theorem steadyPower_far (n f : Int) (lo hi : Int) (w : World) (b : -10000 ≤ (ovl (lo, hi) (0, 2000)).1 ∧ (ovl (lo, hi) (0, 2000)).1 ≤ 10000 ∧ -10000 ≤ (ovl (lo, hi) (0, 2000)).2 ∧ (ovl (lo, hi) (0, 2000)).2 ≤ 10000) (h4 : 0 ≤ n) (h5 : n ≤ 1073741824) (h6 : 0 ≤ f) (h7 : f ≤ 1073741824) :
    Calls Try.prog 92 #[.agg #[.iface 129 (.agg #[.int .i64 n, .int .i64 f]), .int .i64 lo, .int .i64 hi, .bool false]] w fun e w' => e = .returned (.agg #[.int .i64 ((ovl (lo, hi) (0, 2000)).1 * n), .int .i64 (((ovl (lo, hi) (0, 2000)).2 + 1) * f - 1)]) ∧ Below w.heap.size w w' := by
  obtain ⟨b0, b1, b2, b3⟩ := b
  have hme := fun w => me_far_powers n f w
  go_enter Try.func92, Try.ntmps92
  go_wp2
  refine region2 7 ?_ ?_ ?_
  · kernel_rfl
  · kernel_rfl
  simp only [List.take_succ_cons, List.take_zero, List.drop_succ_cons, List.drop_zero]
  apply chain_eq (D := [(1, none)]) rfl (by kernel_rfl)
  · intro ρ W ⟨p1, p2, p3⟩ hG hF K hK; (try simp [FactsD] at hF); have ⟨hc, hf, hz⟩ := bcell hG; go_simp; exact hK _ (gives_val)
  apply chain_eq (D := [(6, some 0)]) rfl (by kernel_rfl)
  · intro ρ W ⟨p1, p2, p3⟩ hG hF K hK; (try simp [FactsD] at hF); have ⟨hc, hf, hz⟩ := bcell hG; go_simp; exact hK _ (gives_val)
  apply chain_eq (D := [(1, none)]) rfl (by kernel_rfl)
  · intro ρ W ⟨p1, p2, p3⟩ hG hF K hK; (try simp [FactsD] at hF); have ⟨hc, hf, hz⟩ := bcell hG; go_simp; exact hK _ (gives_val)
  apply chain_eq (D := [(8, some 0)]) rfl (by kernel_rfl)
  · intro ρ W ⟨p1, p2, p3⟩ hG hF K hK; (try simp [FactsD] at hF); have ⟨hc, hf, hz⟩ := bcell hG; go_simp; exact hK _ (gives_call (steady_any _ _ _ _ _))
  apply chain_eq (D := [(7, some 2)]) rfl (by kernel_rfl)
  · intro ρ W ⟨p1, p2, p3⟩ hG hF K hK; (try simp [FactsD] at hF); have ⟨hc, hf, hz⟩ := bcell hG; go_simp; exact hK _ (gives_val)
  apply chain_eq (D := [(7, some 3)]) rfl (by kernel_rfl)
  · intro ρ W ⟨p1, p2, p3⟩ hG hF K hK; (try simp [FactsD] at hF); have ⟨hc, hf, hz⟩ := bcell hG; go_simp; exact hK _ (gives_val)
  apply chain_eq (D := [(11, some 0), (9, some 2)]) rfl (by kernel_rfl)
  · intro ρ W ⟨p1, p2, p3⟩ hG hF K hK; (try simp [FactsD] at hF); have ⟨hc, hf, hz⟩ := bcell hG; go_simp; exact hK _ (gives_call (farPowers_any _ _ _ _ _ b0 b1 b2 b3 h4 h5 h6 h7))
  refine chain_done ?_
  intro vs W hG hV
  obtain ⟨e6, -⟩ := hV
  simp only [Nat.reduceSub] at e6
  simp only [lay, Act.put, List.getElem?_toArray, List.getElem?_cons_succ, List.getElem?_cons_zero, Option.bind_some, List.setIfInBounds_toArray, List.set_cons_succ, List.set_cons_zero]
  generalize vs 0 = v0
  generalize vs 1 = v1
  generalize vs 2 = v2
  generalize vs 3 = v3
  generalize vs 4 = v4
  generalize vs 5 = v5
  generalize vs 6 = v6 at *
  subst e6
  obtain ⟨hc, hf, hz⟩ := bcell hG
  go_wp2
  exact bodyPost_ret (v := .agg #[.int .i64 ((ovl (lo, hi) (0, 2000)).1 * n), .int .i64 (((ovl (lo, hi) (0, 2000)).2 + 1) * f - 1)]) (by simp [results, Try.results92, go_sem, hc]) rfl ⟨rfl, (((bgr (((Below.refl _ _).alloc (by first | (simp; done) | (simp; omega) | omega) _).alloc (by first | (simp; done) | (simp; omega) | omega) _) (by first | (simp; done) | (simp; omega) | omega) hG).setCell (by first | (simp; done) | (simp; omega) | omega) _).setCell (by first | (simp; done) | (simp; omega) | omega) _)⟩
set_option maxHeartbeats 400000 in
theorem steadyPower_no (wit : Value) (lo hi : Int) (w : World) :
    Calls Try.prog 92 #[.agg #[wit, .int .i64 lo, .int .i64 hi, .bool true]] w fun e w' => e = .returned (.agg #[.int .i64 1, .int .i64 0]) ∧ Below w.heap.size w w' := by
  go_enter Try.func92, Try.ntmps92
  go_wp2_with (go_at_call 100; refine (nothing_any _).mono ?_; rintro e w1 ⟨rfl, hb1⟩; obtain ⟨hc1, hf1, hz1⟩ := bcell hb1)
  exact bodyPost_ret (v := .agg #[.int .i64 1, .int .i64 0]) (by simp [results, Try.results92, go_sem, hc1]) rfl ⟨rfl, (((bgr (((Below.refl _ _).alloc (by first | (simp; done) | (simp; omega) | omega) _).alloc (by first | (simp; done) | (simp; omega) | omega) _) (by first | (simp; done) | (simp; omega) | omega) hb1).setCell (by first | (simp; done) | (simp; omega) | omega) _).setCell (by first | (simp; done) | (simp; omega) | omega) _)⟩

theorem steadyPower_any (s : Sg) (h : s.ok) (w : World) : Calls Try.prog 92 #[s.val] w fun e w' => e = .returned (.agg #[.int .i64 s.spw.1, .int .i64 s.spw.2]) ∧ Below w.heap.size w w' := by
  have hst := Sg.st_in h
  obtain ⟨wit, lo, hi, sl⟩ := s
  obtain ⟨hw, -⟩ := h
  cases sl with
  | true => exact steadyPower_no _ _ _ _
  | false =>
    cases wit with
    | mark m => exact steadyPower_mark m lo hi _ hst hw.1 hw.2
    | far n f => exact steadyPower_far n f lo hi _ hst hw.1 hw.2.1 hw.2.2.1 hw.2.2.2
end Go.Proofs.Ytofdoadpaedogaa
