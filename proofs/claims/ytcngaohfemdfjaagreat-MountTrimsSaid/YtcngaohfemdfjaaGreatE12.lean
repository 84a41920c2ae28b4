import Derived.Test.YtcngaohfemdfjaaGreatE05
set_option linter.unusedVariables false
set_option linter.unusedSimpArgs false
set_option maxRecDepth 100000
set_option maxHeartbeats 60000000
namespace Go.Proofs.YtcngaohfemdfjaaGreat
open Go.RowKit
def Cu.isT (u : Cu) (m : Int) : Bool := (decide (0 ≤ u.a) && decide (u.a ≤ m)) && (decide (0 ≤ u.b) && decide (u.b ≤ m)) && (decide (0 ≤ u.c) && decide (u.c ≤ m)) && (decide (0 ≤ u.d) && decide (u.d ≤ m)) && decide (u.a + u.b = u.c + u.d)
theorem isT_0 (u : Cu) (m : Int) (w : World) (hm : m ≤ 1000)  (h0 : (decide (0 ≤ u.a) && decide (u.a ≤ m)) = false) :
    Calls Tryz.prog 90 #[.agg #[.int .i64 u.a, .int .i64 u.b, .int .i64 u.c, .int .i64 u.d], .int .i64 m] w fun e w' => e = .returned (.bool false) ∧ Below w.heap.size w w' := by
  have I0 := Lib.hid (fun w => minside_is h0 w)
  clear h0
  go_enter Tryz.func90, Tryz.ntmps90
  go_wp2_with fail
  refine (mspan_any _ _ _).mono ?_
  rintro e w1 ⟨rfl, hb1⟩
  have HG0 := Lib.hid (show Gr w (w1.alloc (Obj.cells #[.int .i64 0, .int .i64 m] 23)) from ((Gr.alloc _ _).tr hb1).tr (Gr.alloc _ _))
  have HK0 := Lib.hid (((Box.fresh w [.int .i64 u.a, .int .i64 u.b, .int .i64 u.c, .int .i64 u.d] 30).grow hb1).grow (Gr.alloc _ (Obj.cells #[.int .i64 0, .int .i64 m] 23)))
  have HS0 := Lib.hid (Box.fresh w1 [.int .i64 0, .int .i64 m] 23)
  have kl := HK0.out.lt
  have k0 := HK0.out.cell (i := 0) rfl
  have k1 := HK0.out.cell (i := 1) rfl
  have k2 := HK0.out.cell (i := 2) rfl
  have k3 := HK0.out.cell (i := 3) rfl
  obtain ⟨s0, s1, -, -, sl⟩ := HS0.out.two
  clear hb1
  go_wp2_with fail
  refine (I0.out _).mono ?_
  rintro e v0 ⟨rfl, hv0⟩
  have HG1 := Lib.hid (Gr.tr HG0.out hv0)
  have HK1 := Lib.hid (HK0.out.grow hv0)
  have HS1 := Lib.hid (HS0.out.grow hv0)
  clear k0 k1 k2 k3 kl s0 s1 sl hv0 HG0 HK0 HS0 I0
  have kl := HK1.out.lt
  have k0 := HK1.out.cell (i := 0) rfl
  have k1 := HK1.out.cell (i := 1) rfl
  have k2 := HK1.out.cell (i := 2) rfl
  have k3 := HK1.out.cell (i := 3) rfl
  obtain ⟨s0, s1, -, -, sl⟩ := HS1.out.two
  go_wp2
  go_ret
  exact ⟨rfl, HG1.out⟩
theorem isT_1 (u : Cu) (m : Int) (w : World) (hm : m ≤ 1000) (h0 : (decide (0 ≤ u.a) && decide (u.a ≤ m)) = true) (h1 : (decide (0 ≤ u.b) && decide (u.b ≤ m)) = false) :
    Calls Tryz.prog 90 #[.agg #[.int .i64 u.a, .int .i64 u.b, .int .i64 u.c, .int .i64 u.d], .int .i64 m] w fun e w' => e = .returned (.bool false) ∧ Below w.heap.size w w' := by
  have I0 := Lib.hid (fun w => minside_is h0 w)
  have I1 := Lib.hid (fun w => minside_is h1 w)
  clear h0 h1
  go_enter Tryz.func90, Tryz.ntmps90
  go_wp2_with fail
  refine (mspan_any _ _ _).mono ?_
  rintro e w1 ⟨rfl, hb1⟩
  have HG0 := Lib.hid (show Gr w (w1.alloc (Obj.cells #[.int .i64 0, .int .i64 m] 23)) from ((Gr.alloc _ _).tr hb1).tr (Gr.alloc _ _))
  have HK0 := Lib.hid (((Box.fresh w [.int .i64 u.a, .int .i64 u.b, .int .i64 u.c, .int .i64 u.d] 30).grow hb1).grow (Gr.alloc _ (Obj.cells #[.int .i64 0, .int .i64 m] 23)))
  have HS0 := Lib.hid (Box.fresh w1 [.int .i64 0, .int .i64 m] 23)
  have kl := HK0.out.lt
  have k0 := HK0.out.cell (i := 0) rfl
  have k1 := HK0.out.cell (i := 1) rfl
  have k2 := HK0.out.cell (i := 2) rfl
  have k3 := HK0.out.cell (i := 3) rfl
  obtain ⟨s0, s1, -, -, sl⟩ := HS0.out.two
  clear hb1
  go_wp2_with fail
  refine (I0.out _).mono ?_
  rintro e v0 ⟨rfl, hv0⟩
  have HG1 := Lib.hid (Gr.tr HG0.out hv0)
  have HK1 := Lib.hid (HK0.out.grow hv0)
  have HS1 := Lib.hid (HS0.out.grow hv0)
  clear k0 k1 k2 k3 kl s0 s1 sl hv0 HG0 HK0 HS0 I0
  have kl := HK1.out.lt
  have k0 := HK1.out.cell (i := 0) rfl
  have k1 := HK1.out.cell (i := 1) rfl
  have k2 := HK1.out.cell (i := 2) rfl
  have k3 := HK1.out.cell (i := 3) rfl
  obtain ⟨s0, s1, -, -, sl⟩ := HS1.out.two
  go_wp2_with fail
  refine (I1.out _).mono ?_
  rintro e v1 ⟨rfl, hv1⟩
  have HG2 := Lib.hid (Gr.tr HG1.out hv1)
  have HK2 := Lib.hid (HK1.out.grow hv1)
  have HS2 := Lib.hid (HS1.out.grow hv1)
  clear k0 k1 k2 k3 kl s0 s1 sl hv1 HG1 HK1 HS1 I1
  have kl := HK2.out.lt
  have k0 := HK2.out.cell (i := 0) rfl
  have k1 := HK2.out.cell (i := 1) rfl
  have k2 := HK2.out.cell (i := 2) rfl
  have k3 := HK2.out.cell (i := 3) rfl
  obtain ⟨s0, s1, -, -, sl⟩ := HS2.out.two
  go_wp2
  go_ret
  exact ⟨rfl, HG2.out⟩
theorem isT_2 (u : Cu) (m : Int) (w : World) (hm : m ≤ 1000) (h0 : (decide (0 ≤ u.a) && decide (u.a ≤ m)) = true) (h1 : (decide (0 ≤ u.b) && decide (u.b ≤ m)) = true) (h2 : (decide (0 ≤ u.c) && decide (u.c ≤ m)) = false) :
    Calls Tryz.prog 90 #[.agg #[.int .i64 u.a, .int .i64 u.b, .int .i64 u.c, .int .i64 u.d], .int .i64 m] w fun e w' => e = .returned (.bool false) ∧ Below w.heap.size w w' := by
  have I0 := Lib.hid (fun w => minside_is h0 w)
  have I1 := Lib.hid (fun w => minside_is h1 w)
  have I2 := Lib.hid (fun w => minside_is h2 w)
  clear h0 h1 h2
  go_enter Tryz.func90, Tryz.ntmps90
  go_wp2_with fail
  refine (mspan_any _ _ _).mono ?_
  rintro e w1 ⟨rfl, hb1⟩
  have HG0 := Lib.hid (show Gr w (w1.alloc (Obj.cells #[.int .i64 0, .int .i64 m] 23)) from ((Gr.alloc _ _).tr hb1).tr (Gr.alloc _ _))
  have HK0 := Lib.hid (((Box.fresh w [.int .i64 u.a, .int .i64 u.b, .int .i64 u.c, .int .i64 u.d] 30).grow hb1).grow (Gr.alloc _ (Obj.cells #[.int .i64 0, .int .i64 m] 23)))
  have HS0 := Lib.hid (Box.fresh w1 [.int .i64 0, .int .i64 m] 23)
  have kl := HK0.out.lt
  have k0 := HK0.out.cell (i := 0) rfl
  have k1 := HK0.out.cell (i := 1) rfl
  have k2 := HK0.out.cell (i := 2) rfl
  have k3 := HK0.out.cell (i := 3) rfl
  obtain ⟨s0, s1, -, -, sl⟩ := HS0.out.two
  clear hb1
  go_wp2_with fail
  refine (I0.out _).mono ?_
  rintro e v0 ⟨rfl, hv0⟩
  have HG1 := Lib.hid (Gr.tr HG0.out hv0)
  have HK1 := Lib.hid (HK0.out.grow hv0)
  have HS1 := Lib.hid (HS0.out.grow hv0)
  clear k0 k1 k2 k3 kl s0 s1 sl hv0 HG0 HK0 HS0 I0
  have kl := HK1.out.lt
  have k0 := HK1.out.cell (i := 0) rfl
  have k1 := HK1.out.cell (i := 1) rfl
  have k2 := HK1.out.cell (i := 2) rfl
  have k3 := HK1.out.cell (i := 3) rfl
  obtain ⟨s0, s1, -, -, sl⟩ := HS1.out.two
  go_wp2_with fail
  refine (I1.out _).mono ?_
  rintro e v1 ⟨rfl, hv1⟩
  have HG2 := Lib.hid (Gr.tr HG1.out hv1)
  have HK2 := Lib.hid (HK1.out.grow hv1)
  have HS2 := Lib.hid (HS1.out.grow hv1)
  clear k0 k1 k2 k3 kl s0 s1 sl hv1 HG1 HK1 HS1 I1
  have kl := HK2.out.lt
  have k0 := HK2.out.cell (i := 0) rfl
  have k1 := HK2.out.cell (i := 1) rfl
  have k2 := HK2.out.cell (i := 2) rfl
  have k3 := HK2.out.cell (i := 3) rfl
  obtain ⟨s0, s1, -, -, sl⟩ := HS2.out.two
  go_wp2_with fail
  refine (I2.out _).mono ?_
  rintro e v2 ⟨rfl, hv2⟩
  have HG3 := Lib.hid (Gr.tr HG2.out hv2)
  have HK3 := Lib.hid (HK2.out.grow hv2)
  have HS3 := Lib.hid (HS2.out.grow hv2)
  clear k0 k1 k2 k3 kl s0 s1 sl hv2 HG2 HK2 HS2 I2
  have kl := HK3.out.lt
  have k0 := HK3.out.cell (i := 0) rfl
  have k1 := HK3.out.cell (i := 1) rfl
  have k2 := HK3.out.cell (i := 2) rfl
  have k3 := HK3.out.cell (i := 3) rfl
  obtain ⟨s0, s1, -, -, sl⟩ := HS3.out.two
  go_wp2
  go_ret
  exact ⟨rfl, HG3.out⟩
theorem isT_3 (u : Cu) (m : Int) (w : World) (hm : m ≤ 1000) (h0 : (decide (0 ≤ u.a) && decide (u.a ≤ m)) = true) (h1 : (decide (0 ≤ u.b) && decide (u.b ≤ m)) = true) (h2 : (decide (0 ≤ u.c) && decide (u.c ≤ m)) = true) (h3 : (decide (0 ≤ u.d) && decide (u.d ≤ m)) = false) :
    Calls Tryz.prog 90 #[.agg #[.int .i64 u.a, .int .i64 u.b, .int .i64 u.c, .int .i64 u.d], .int .i64 m] w fun e w' => e = .returned (.bool false) ∧ Below w.heap.size w w' := by
  have I0 := Lib.hid (fun w => minside_is h0 w)
  have I1 := Lib.hid (fun w => minside_is h1 w)
  have I2 := Lib.hid (fun w => minside_is h2 w)
  have I3 := Lib.hid (fun w => minside_is h3 w)
  clear h0 h1 h2 h3
  go_enter Tryz.func90, Tryz.ntmps90
  go_wp2_with fail
  refine (mspan_any _ _ _).mono ?_
  rintro e w1 ⟨rfl, hb1⟩
  have HG0 := Lib.hid (show Gr w (w1.alloc (Obj.cells #[.int .i64 0, .int .i64 m] 23)) from ((Gr.alloc _ _).tr hb1).tr (Gr.alloc _ _))
  have HK0 := Lib.hid (((Box.fresh w [.int .i64 u.a, .int .i64 u.b, .int .i64 u.c, .int .i64 u.d] 30).grow hb1).grow (Gr.alloc _ (Obj.cells #[.int .i64 0, .int .i64 m] 23)))
  have HS0 := Lib.hid (Box.fresh w1 [.int .i64 0, .int .i64 m] 23)
  have kl := HK0.out.lt
  have k0 := HK0.out.cell (i := 0) rfl
  have k1 := HK0.out.cell (i := 1) rfl
  have k2 := HK0.out.cell (i := 2) rfl
  have k3 := HK0.out.cell (i := 3) rfl
  obtain ⟨s0, s1, -, -, sl⟩ := HS0.out.two
  clear hb1
  go_wp2_with fail
  refine (I0.out _).mono ?_
  rintro e v0 ⟨rfl, hv0⟩
  have HG1 := Lib.hid (Gr.tr HG0.out hv0)
  have HK1 := Lib.hid (HK0.out.grow hv0)
  have HS1 := Lib.hid (HS0.out.grow hv0)
  clear k0 k1 k2 k3 kl s0 s1 sl hv0 HG0 HK0 HS0 I0
  have kl := HK1.out.lt
  have k0 := HK1.out.cell (i := 0) rfl
  have k1 := HK1.out.cell (i := 1) rfl
  have k2 := HK1.out.cell (i := 2) rfl
  have k3 := HK1.out.cell (i := 3) rfl
  obtain ⟨s0, s1, -, -, sl⟩ := HS1.out.two
  go_wp2_with fail
  refine (I1.out _).mono ?_
  rintro e v1 ⟨rfl, hv1⟩
  have HG2 := Lib.hid (Gr.tr HG1.out hv1)
  have HK2 := Lib.hid (HK1.out.grow hv1)
  have HS2 := Lib.hid (HS1.out.grow hv1)
  clear k0 k1 k2 k3 kl s0 s1 sl hv1 HG1 HK1 HS1 I1
  have kl := HK2.out.lt
  have k0 := HK2.out.cell (i := 0) rfl
  have k1 := HK2.out.cell (i := 1) rfl
  have k2 := HK2.out.cell (i := 2) rfl
  have k3 := HK2.out.cell (i := 3) rfl
  obtain ⟨s0, s1, -, -, sl⟩ := HS2.out.two
  go_wp2_with fail
  refine (I2.out _).mono ?_
  rintro e v2 ⟨rfl, hv2⟩
  have HG3 := Lib.hid (Gr.tr HG2.out hv2)
  have HK3 := Lib.hid (HK2.out.grow hv2)
  have HS3 := Lib.hid (HS2.out.grow hv2)
  clear k0 k1 k2 k3 kl s0 s1 sl hv2 HG2 HK2 HS2 I2
  have kl := HK3.out.lt
  have k0 := HK3.out.cell (i := 0) rfl
  have k1 := HK3.out.cell (i := 1) rfl
  have k2 := HK3.out.cell (i := 2) rfl
  have k3 := HK3.out.cell (i := 3) rfl
  obtain ⟨s0, s1, -, -, sl⟩ := HS3.out.two
  go_wp2_with fail
  refine (I3.out _).mono ?_
  rintro e v3 ⟨rfl, hv3⟩
  have HG4 := Lib.hid (Gr.tr HG3.out hv3)
  have HK4 := Lib.hid (HK3.out.grow hv3)
  have HS4 := Lib.hid (HS3.out.grow hv3)
  clear k0 k1 k2 k3 kl s0 s1 sl hv3 HG3 HK3 HS3 I3
  have kl := HK4.out.lt
  have k0 := HK4.out.cell (i := 0) rfl
  have k1 := HK4.out.cell (i := 1) rfl
  have k2 := HK4.out.cell (i := 2) rfl
  have k3 := HK4.out.cell (i := 3) rfl
  obtain ⟨s0, s1, -, -, sl⟩ := HS4.out.two
  go_wp2
  go_ret
  exact ⟨rfl, HG4.out⟩
theorem isT_4 (u : Cu) (m : Int) (w : World) (hm : m ≤ 1000) (h0 : (decide (0 ≤ u.a) && decide (u.a ≤ m)) = true) (h1 : (decide (0 ≤ u.b) && decide (u.b ≤ m)) = true) (h2 : (decide (0 ≤ u.c) && decide (u.c ≤ m)) = true) (h3 : (decide (0 ≤ u.d) && decide (u.d ≤ m)) = true) (h4 : (decide (u.a + u.b = u.c + u.d)) = false) :
    Calls Tryz.prog 90 #[.agg #[.int .i64 u.a, .int .i64 u.b, .int .i64 u.c, .int .i64 u.d], .int .i64 m] w fun e w' => e = .returned (.bool false) ∧ Below w.heap.size w w' := by
  have I0 := Lib.hid (fun w => minside_is h0 w)
  have I1 := Lib.hid (fun w => minside_is h1 w)
  have I2 := Lib.hid (fun w => minside_is h2 w)
  have I3 := Lib.hid (fun w => minside_is h3 w)
  have b0 : 0 ≤ u.a ∧ u.a ≤ m := by simpa using h0
  have b1 : 0 ≤ u.b ∧ u.b ≤ m := by simpa using h1
  have b2 : 0 ≤ u.c ∧ u.c ≤ m := by simpa using h2
  have b3 : 0 ≤ u.d ∧ u.d ≤ m := by simpa using h3
  clear h0 h1 h2 h3
  have hs : ¬ (u.a + u.b = u.c + u.d) := by simpa using h4
  clear h4
  go_enter Tryz.func90, Tryz.ntmps90
  go_wp2_with fail
  refine (mspan_any _ _ _).mono ?_
  rintro e w1 ⟨rfl, hb1⟩
  have HG0 := Lib.hid (show Gr w (w1.alloc (Obj.cells #[.int .i64 0, .int .i64 m] 23)) from ((Gr.alloc _ _).tr hb1).tr (Gr.alloc _ _))
  have HK0 := Lib.hid (((Box.fresh w [.int .i64 u.a, .int .i64 u.b, .int .i64 u.c, .int .i64 u.d] 30).grow hb1).grow (Gr.alloc _ (Obj.cells #[.int .i64 0, .int .i64 m] 23)))
  have HS0 := Lib.hid (Box.fresh w1 [.int .i64 0, .int .i64 m] 23)
  have kl := HK0.out.lt
  have k0 := HK0.out.cell (i := 0) rfl
  have k1 := HK0.out.cell (i := 1) rfl
  have k2 := HK0.out.cell (i := 2) rfl
  have k3 := HK0.out.cell (i := 3) rfl
  obtain ⟨s0, s1, -, -, sl⟩ := HS0.out.two
  clear hb1
  go_wp2_with fail
  refine (I0.out _).mono ?_
  rintro e v0 ⟨rfl, hv0⟩
  have HG1 := Lib.hid (Gr.tr HG0.out hv0)
  have HK1 := Lib.hid (HK0.out.grow hv0)
  have HS1 := Lib.hid (HS0.out.grow hv0)
  clear k0 k1 k2 k3 kl s0 s1 sl hv0 HG0 HK0 HS0 I0
  have kl := HK1.out.lt
  have k0 := HK1.out.cell (i := 0) rfl
  have k1 := HK1.out.cell (i := 1) rfl
  have k2 := HK1.out.cell (i := 2) rfl
  have k3 := HK1.out.cell (i := 3) rfl
  obtain ⟨s0, s1, -, -, sl⟩ := HS1.out.two
  go_wp2_with fail
  refine (I1.out _).mono ?_
  rintro e v1 ⟨rfl, hv1⟩
  have HG2 := Lib.hid (Gr.tr HG1.out hv1)
  have HK2 := Lib.hid (HK1.out.grow hv1)
  have HS2 := Lib.hid (HS1.out.grow hv1)
  clear k0 k1 k2 k3 kl s0 s1 sl hv1 HG1 HK1 HS1 I1
  have kl := HK2.out.lt
  have k0 := HK2.out.cell (i := 0) rfl
  have k1 := HK2.out.cell (i := 1) rfl
  have k2 := HK2.out.cell (i := 2) rfl
  have k3 := HK2.out.cell (i := 3) rfl
  obtain ⟨s0, s1, -, -, sl⟩ := HS2.out.two
  go_wp2_with fail
  refine (I2.out _).mono ?_
  rintro e v2 ⟨rfl, hv2⟩
  have HG3 := Lib.hid (Gr.tr HG2.out hv2)
  have HK3 := Lib.hid (HK2.out.grow hv2)
  have HS3 := Lib.hid (HS2.out.grow hv2)
  clear k0 k1 k2 k3 kl s0 s1 sl hv2 HG2 HK2 HS2 I2
  have kl := HK3.out.lt
  have k0 := HK3.out.cell (i := 0) rfl
  have k1 := HK3.out.cell (i := 1) rfl
  have k2 := HK3.out.cell (i := 2) rfl
  have k3 := HK3.out.cell (i := 3) rfl
  obtain ⟨s0, s1, -, -, sl⟩ := HS3.out.two
  go_wp2_with fail
  refine (I3.out _).mono ?_
  rintro e v3 ⟨rfl, hv3⟩
  have HG4 := Lib.hid (Gr.tr HG3.out hv3)
  have HK4 := Lib.hid (HK3.out.grow hv3)
  have HS4 := Lib.hid (HS3.out.grow hv3)
  clear k0 k1 k2 k3 kl s0 s1 sl hv3 HG3 HK3 HS3 I3
  have kl := HK4.out.lt
  have k0 := HK4.out.cell (i := 0) rfl
  have k1 := HK4.out.cell (i := 1) rfl
  have k2 := HK4.out.cell (i := 2) rfl
  have k3 := HK4.out.cell (i := 3) rfl
  obtain ⟨s0, s1, -, -, sl⟩ := HS4.out.two
  go_wp2
  go_ret
  exact ⟨by simp [hs], HG4.out⟩
theorem isT_5 (u : Cu) (m : Int) (w : World) (hm : m ≤ 1000) (h0 : (decide (0 ≤ u.a) && decide (u.a ≤ m)) = true) (h1 : (decide (0 ≤ u.b) && decide (u.b ≤ m)) = true) (h2 : (decide (0 ≤ u.c) && decide (u.c ≤ m)) = true) (h3 : (decide (0 ≤ u.d) && decide (u.d ≤ m)) = true) (h4 : (decide (u.a + u.b = u.c + u.d)) = true) :
    Calls Tryz.prog 90 #[.agg #[.int .i64 u.a, .int .i64 u.b, .int .i64 u.c, .int .i64 u.d], .int .i64 m] w fun e w' => e = .returned (.bool true) ∧ Below w.heap.size w w' := by
  have I0 := Lib.hid (fun w => minside_is h0 w)
  have I1 := Lib.hid (fun w => minside_is h1 w)
  have I2 := Lib.hid (fun w => minside_is h2 w)
  have I3 := Lib.hid (fun w => minside_is h3 w)
  have b0 : 0 ≤ u.a ∧ u.a ≤ m := by simpa using h0
  have b1 : 0 ≤ u.b ∧ u.b ≤ m := by simpa using h1
  have b2 : 0 ≤ u.c ∧ u.c ≤ m := by simpa using h2
  have b3 : 0 ≤ u.d ∧ u.d ≤ m := by simpa using h3
  clear h0 h1 h2 h3
  have hs : u.a + u.b = u.c + u.d := by simpa using h4
  clear h4
  go_enter Tryz.func90, Tryz.ntmps90
  go_wp2_with fail
  refine (mspan_any _ _ _).mono ?_
  rintro e w1 ⟨rfl, hb1⟩
  have HG0 := Lib.hid (show Gr w (w1.alloc (Obj.cells #[.int .i64 0, .int .i64 m] 23)) from ((Gr.alloc _ _).tr hb1).tr (Gr.alloc _ _))
  have HK0 := Lib.hid (((Box.fresh w [.int .i64 u.a, .int .i64 u.b, .int .i64 u.c, .int .i64 u.d] 30).grow hb1).grow (Gr.alloc _ (Obj.cells #[.int .i64 0, .int .i64 m] 23)))
  have HS0 := Lib.hid (Box.fresh w1 [.int .i64 0, .int .i64 m] 23)
  have kl := HK0.out.lt
  have k0 := HK0.out.cell (i := 0) rfl
  have k1 := HK0.out.cell (i := 1) rfl
  have k2 := HK0.out.cell (i := 2) rfl
  have k3 := HK0.out.cell (i := 3) rfl
  obtain ⟨s0, s1, -, -, sl⟩ := HS0.out.two
  clear hb1
  go_wp2_with fail
  refine (I0.out _).mono ?_
  rintro e v0 ⟨rfl, hv0⟩
  have HG1 := Lib.hid (Gr.tr HG0.out hv0)
  have HK1 := Lib.hid (HK0.out.grow hv0)
  have HS1 := Lib.hid (HS0.out.grow hv0)
  clear k0 k1 k2 k3 kl s0 s1 sl hv0 HG0 HK0 HS0 I0
  have kl := HK1.out.lt
  have k0 := HK1.out.cell (i := 0) rfl
  have k1 := HK1.out.cell (i := 1) rfl
  have k2 := HK1.out.cell (i := 2) rfl
  have k3 := HK1.out.cell (i := 3) rfl
  obtain ⟨s0, s1, -, -, sl⟩ := HS1.out.two
  go_wp2_with fail
  refine (I1.out _).mono ?_
  rintro e v1 ⟨rfl, hv1⟩
  have HG2 := Lib.hid (Gr.tr HG1.out hv1)
  have HK2 := Lib.hid (HK1.out.grow hv1)
  have HS2 := Lib.hid (HS1.out.grow hv1)
  clear k0 k1 k2 k3 kl s0 s1 sl hv1 HG1 HK1 HS1 I1
  have kl := HK2.out.lt
  have k0 := HK2.out.cell (i := 0) rfl
  have k1 := HK2.out.cell (i := 1) rfl
  have k2 := HK2.out.cell (i := 2) rfl
  have k3 := HK2.out.cell (i := 3) rfl
  obtain ⟨s0, s1, -, -, sl⟩ := HS2.out.two
  go_wp2_with fail
  refine (I2.out _).mono ?_
  rintro e v2 ⟨rfl, hv2⟩
  have HG3 := Lib.hid (Gr.tr HG2.out hv2)
  have HK3 := Lib.hid (HK2.out.grow hv2)
  have HS3 := Lib.hid (HS2.out.grow hv2)
  clear k0 k1 k2 k3 kl s0 s1 sl hv2 HG2 HK2 HS2 I2
  have kl := HK3.out.lt
  have k0 := HK3.out.cell (i := 0) rfl
  have k1 := HK3.out.cell (i := 1) rfl
  have k2 := HK3.out.cell (i := 2) rfl
  have k3 := HK3.out.cell (i := 3) rfl
  obtain ⟨s0, s1, -, -, sl⟩ := HS3.out.two
  go_wp2_with fail
  refine (I3.out _).mono ?_
  rintro e v3 ⟨rfl, hv3⟩
  have HG4 := Lib.hid (Gr.tr HG3.out hv3)
  have HK4 := Lib.hid (HK3.out.grow hv3)
  have HS4 := Lib.hid (HS3.out.grow hv3)
  clear k0 k1 k2 k3 kl s0 s1 sl hv3 HG3 HK3 HS3 I3
  have kl := HK4.out.lt
  have k0 := HK4.out.cell (i := 0) rfl
  have k1 := HK4.out.cell (i := 1) rfl
  have k2 := HK4.out.cell (i := 2) rfl
  have k3 := HK4.out.cell (i := 3) rfl
  obtain ⟨s0, s1, -, -, sl⟩ := HS4.out.two
  go_wp2
  go_ret
  exact ⟨rfl, HG4.out⟩
theorem isT_any (u : Cu) (m : Int) (w : World) (hm : m ≤ 1000) : Calls Tryz.prog 90 #[u.val, .int .i64 m] w fun e w' => e = .returned (.bool (u.isT m)) ∧ Below w.heap.size w w' := by
  unfold Cu.val Cu.isT
  cases h0 : (decide (0 ≤ u.a) && decide (u.a ≤ m)) with
  | false => simp only [Bool.false_and, Bool.and_false]; exact isT_0 u m w hm h0
  | true =>
    cases h1 : (decide (0 ≤ u.b) && decide (u.b ≤ m)) with
    | false => simp only [Bool.false_and, Bool.and_false]; exact isT_1 u m w hm h0 h1
    | true =>
      cases h2 : (decide (0 ≤ u.c) && decide (u.c ≤ m)) with
      | false => simp only [Bool.false_and, Bool.and_false]; exact isT_2 u m w hm h0 h1 h2
      | true =>
        cases h3 : (decide (0 ≤ u.d) && decide (u.d ≤ m)) with
        | false => simp only [Bool.false_and, Bool.and_false]; exact isT_3 u m w hm h0 h1 h2 h3
        | true =>
          cases h4 : (decide (u.a + u.b = u.c + u.d)) with
          | false => simp only [Bool.false_and, Bool.and_false]; exact isT_4 u m w hm h0 h1 h2 h3 h4
          | true =>
            exact isT_5 u m w hm h0 h1 h2 h3 h4
end Go.Proofs.YtcngaohfemdfjaaGreat
