import Derived.Test.YtjlaoiimbhlafaaZT10
namespace Go.Proofs.Ytjlaoiimbhlafaa.Pq
open Go.RowKit


structure Th where
  a : Int
  b : Int
  c : Int
  d : Int
  e : Int
  f : Int
  g : Int
  h : Int
  z : Int
def Th.val (t : Th) : Value := .agg #[.int .i64 t.a, .int .i64 t.b, .int .i64 t.c, .int .i64 t.d, .int .i64 t.e, .int .i64 t.f, .int .i64 t.g, .int .i64 t.h, .int .i64 t.z]
def Th.wit (ne fa : Int) (t : Th) : Wit := if t.z = 0 then .far ne fa else .mark t.z
/-- What is seen of a thing. -/
def Th.see (ti ne fa : Int) (t : Th) : Sg := ⟨t.wit ne fa, t.a - t.f, t.b - t.e, decide (ti < imax (t.c - t.h) (t.g - t.d))⟩
def inPlate (x : Int) : Prop := -4000 ≤ x ∧ x ≤ 4000
def Th.ok (t : Th) : Prop := inPlate t.a ∧ inPlate t.b ∧ inPlate t.c ∧ inPlate t.d ∧ inPlate t.e ∧ inPlate t.f ∧ inPlate t.g ∧ inPlate t.h
set_option maxHeartbeats 1600000 in
theorem see_far (fl fh bl bh ti ne fa : Int) (th sv : Value) (plo phi : Int) (xa xb xc xd xe xf xg xh xz : Int) (w : World) (ha : inPlate xa) (hb : inPlate xb) (hc : inPlate xc) (hd : inPlate xd) (he : inPlate xe) (hf : inPlate xf) (hg : inPlate xg) (hh : inPlate xh) (hz : (xz != 0) = false) :
    Calls Try.prog 126 #[.agg #[.int .i64 fl, .int .i64 fh, .int .i64 bl, .int .i64 bh, .int .i64 ti, .int .i64 ne, .int .i64 fa, th, sv, .int .i64 plo, .int .i64 phi], .agg #[.int .i64 xa, .int .i64 xb, .int .i64 xc, .int .i64 xd, .int .i64 xe, .int .i64 xf, .int .i64 xg, .int .i64 xh, .int .i64 xz]] w fun e w' => e = .returned (.agg #[.iface 180 (.agg #[.int .i64 ne, .int .i64 fa]), .int .i64 (xa - xf), .int .i64 (xb - xe), .bool (decide (ti < imax (xc - xh) (xg - xd)))]) ∧ Below w.heap.size w w' := by
  obtain ⟨a0, a1⟩ := ha
  obtain ⟨b0, b1⟩ := hb
  obtain ⟨c0, c1⟩ := hc
  obtain ⟨d0, d1⟩ := hd
  obtain ⟨e0, e1⟩ := he
  obtain ⟨f0, f1⟩ := hf
  obtain ⟨g0, g1⟩ := hg
  obtain ⟨h0, h1⟩ := hh
  have hmx : ∀ (x y : Int), (if x < y then y else x) = imax x y := fun _ _ => rfl
  go_enter Try.func126, Try.ntmps126
  go_wp2
  refine region2 52 ?_ ?_ ?_
  · kernel_rfl
  · kernel_rfl
  simp only [List.take_succ_cons, List.take_zero, List.drop_succ_cons, List.drop_zero]
  apply chain_eq (D := [(2, none)]) rfl (by kernel_rfl)
  · intro ρ W ⟨p1, p2, p3⟩ hG hF K hK; (try simp [FactsD] at hF); have ⟨hc, hf, hz⟩ := bcell hG; go_simp; exact hK _ (gives_val)
  apply chain_eq (D := [(6, some 0)]) rfl (by kernel_rfl)
  · intro ρ W ⟨p1, p2, p3⟩ hG hF K hK; (try simp [FactsD] at hF); have ⟨hc, hf, hz⟩ := bcell hG; go_simp; exact hK _ (gives_val)
  apply chain_eq (D := [(7, some 0)]) rfl (by kernel_rfl)
  · intro ρ W ⟨p1, p2, p3⟩ hG hF K hK; (try simp [FactsD] at hF); have ⟨hc, hf, hz⟩ := bcell hG; go_simp; exact hK _ (gives_val)
  apply chain_eq (D := [(2, none)]) rfl (by kernel_rfl)
  · intro ρ W ⟨p1, p2, p3⟩ hG hF K hK; (try simp [FactsD] at hF); have ⟨hc, hf, hz⟩ := bcell hG; go_simp; exact hK _ (gives_val)
  apply chain_eq (D := [(9, some 0)]) rfl (by kernel_rfl)
  · intro ρ W ⟨p1, p2, p3⟩ hG hF K hK; (try simp [FactsD] at hF); have ⟨hc, hf, hz⟩ := bcell hG; go_simp; exact hK _ (gives_val)
  apply chain_eq (D := [(10, some 0)]) rfl (by kernel_rfl)
  · intro ρ W ⟨p1, p2, p3⟩ hG hF K hK; (try simp [FactsD] at hF); have ⟨hc, hf, hz⟩ := bcell hG; go_simp; exact hK _ (gives_val)
  apply chain_eq (D := [(8, some 3), (11, some 0)]) rfl (by kernel_rfl)
  · intro ρ W ⟨p1, p2, p3⟩ hG hF K hK; (try simp [FactsD] at hF); have ⟨hc, hf, hz⟩ := bcell hG; go_simp; exact hK _ (gives_val)
  apply chain_eq (D := [(12, some 0)]) rfl (by kernel_rfl)
  · intro ρ W ⟨p1, p2, p3⟩ hG hF K hK; (try simp [FactsD] at hF); have ⟨hc, hf, hz⟩ := bcell hG; go_simp; exact hK _ (gives_val)
  apply chain_eq (D := [(3, none)]) rfl (by kernel_rfl)
  · intro ρ W ⟨p1, p2, p3⟩ hG hF K hK; (try simp [FactsD] at hF); have ⟨hc, hf, hz⟩ := bcell hG; go_simp; exact hK _ (gives_val)
  apply chain_eq (D := [(14, some 0)]) rfl (by kernel_rfl)
  · intro ρ W ⟨p1, p2, p3⟩ hG hF K hK; (try simp [FactsD] at hF); have ⟨hc, hf, hz⟩ := bcell hG; go_simp; exact hK _ (gives_val)
  apply chain_eq (D := [(15, some 0)]) rfl (by kernel_rfl)
  · intro ρ W ⟨p1, p2, p3⟩ hG hF K hK; (try simp [FactsD] at hF); have ⟨hc, hf, hz⟩ := bcell hG; go_simp; exact hK _ (gives_val)
  apply chain_eq (D := [(16, some 0)]) rfl (by kernel_rfl)
  · intro ρ W ⟨p1, p2, p3⟩ hG hF K hK; (try simp [FactsD] at hF); have ⟨hc, hf, hz⟩ := bcell hG; go_simp; exact hK _ (gives_val)
  apply chain_eq (D := [(3, none)]) rfl (by kernel_rfl)
  · intro ρ W ⟨p1, p2, p3⟩ hG hF K hK; (try simp [FactsD] at hF); have ⟨hc, hf, hz⟩ := bcell hG; go_simp; exact hK _ (gives_val)
  apply chain_eq (D := [(18, some 0)]) rfl (by kernel_rfl)
  · intro ρ W ⟨p1, p2, p3⟩ hG hF K hK; (try simp [FactsD] at hF); have ⟨hc, hf, hz⟩ := bcell hG; go_simp; exact hK _ (gives_val)
  apply chain_eq (D := [(19, some 0)]) rfl (by kernel_rfl)
  · intro ρ W ⟨p1, p2, p3⟩ hG hF K hK; (try simp [FactsD] at hF); have ⟨hc, hf, hz⟩ := bcell hG; go_simp; exact hK _ (gives_val)
  apply chain_eq (D := [(20, some 0)]) rfl (by kernel_rfl)
  · intro ρ W ⟨p1, p2, p3⟩ hG hF K hK; (try simp [FactsD] at hF); have ⟨hc, hf, hz⟩ := bcell hG; go_simp; exact hK _ (gives_val)
  apply chain_eq (D := [(17, some 4), (21, some 0)]) rfl (by kernel_rfl)
  · intro ρ W ⟨p1, p2, p3⟩ hG hF K hK; (try simp [FactsD] at hF); have ⟨hc, hf, hz⟩ := bcell hG; go_simp; exact hK _ (gives_val)
  apply chain_eq (D := [(3, none)]) rfl (by kernel_rfl)
  · intro ρ W ⟨p1, p2, p3⟩ hG hF K hK; (try simp [FactsD] at hF); have ⟨hc, hf, hz⟩ := bcell hG; go_simp; exact hK _ (gives_val)
  apply chain_eq (D := [(23, some 0)]) rfl (by kernel_rfl)
  · intro ρ W ⟨p1, p2, p3⟩ hG hF K hK; (try simp [FactsD] at hF); have ⟨hc, hf, hz⟩ := bcell hG; go_simp; exact hK _ (gives_val)
  apply chain_eq (D := [(24, some 0)]) rfl (by kernel_rfl)
  · intro ρ W ⟨p1, p2, p3⟩ hG hF K hK; (try simp [FactsD] at hF); have ⟨hc, hf, hz⟩ := bcell hG; go_simp; exact hK _ (gives_val)
  apply chain_eq (D := [(25, some 0)]) rfl (by kernel_rfl)
  · intro ρ W ⟨p1, p2, p3⟩ hG hF K hK; (try simp [FactsD] at hF); have ⟨hc, hf, hz⟩ := bcell hG; go_simp; exact hK _ (gives_val)
  apply chain_eq (D := [(3, none)]) rfl (by kernel_rfl)
  · intro ρ W ⟨p1, p2, p3⟩ hG hF K hK; (try simp [FactsD] at hF); have ⟨hc, hf, hz⟩ := bcell hG; go_simp; exact hK _ (gives_val)
  apply chain_eq (D := [(27, some 0)]) rfl (by kernel_rfl)
  · intro ρ W ⟨p1, p2, p3⟩ hG hF K hK; (try simp [FactsD] at hF); have ⟨hc, hf, hz⟩ := bcell hG; go_simp; exact hK _ (gives_val)
  apply chain_eq (D := [(28, some 0)]) rfl (by kernel_rfl)
  · intro ρ W ⟨p1, p2, p3⟩ hG hF K hK; (try simp [FactsD] at hF); have ⟨hc, hf, hz⟩ := bcell hG; go_simp; exact hK _ (gives_val)
  apply chain_eq (D := [(29, some 0)]) rfl (by kernel_rfl)
  · intro ρ W ⟨p1, p2, p3⟩ hG hF K hK; (try simp [FactsD] at hF); have ⟨hc, hf, hz⟩ := bcell hG; go_simp; exact hK _ (gives_val)
  apply chain_eq (D := [(26, some 4), (30, some 0)]) rfl (by kernel_rfl)
  · intro ρ W ⟨p1, p2, p3⟩ hG hF K hK; (try simp [FactsD] at hF); have ⟨hc, hf, hz⟩ := bcell hG; go_simp; exact hK _ (gives_val)
  apply chain_eq (D := [(22, some 9), (31, some 0)]) rfl (by kernel_rfl)
  · intro ρ W ⟨p1, p2, p3⟩ hG hF K hK; (try simp [FactsD] at hF); have ⟨hc, hf, hz⟩ := bcell hG; go_simp; exact hK _ (gives_call (span_any _ _ _))
  apply chain_eq (D := [(3, none)]) rfl (by kernel_rfl)
  · intro ρ W ⟨p1, p2, p3⟩ hG hF K hK; (try simp [FactsD] at hF); have ⟨hc, hf, hz⟩ := bcell hG; go_simp; exact hK _ (gives_val)
  apply chain_eq (D := [(33, some 0)]) rfl (by kernel_rfl)
  · intro ρ W ⟨p1, p2, p3⟩ hG hF K hK; (try simp [FactsD] at hF); have ⟨hc, hf, hz⟩ := bcell hG; go_simp; exact hK _ (gives_val)
  apply chain_eq (D := [(34, some 0)]) rfl (by kernel_rfl)
  · intro ρ W ⟨p1, p2, p3⟩ hG hF K hK; (try simp [FactsD] at hF); have ⟨hc, hf, hz⟩ := bcell hG; go_simp; exact hK _ (gives_val)
  apply chain_eq (D := [(35, some 0)]) rfl (by kernel_rfl)
  · intro ρ W ⟨p1, p2, p3⟩ hG hF K hK; (try simp [FactsD] at hF); have ⟨hc, hf, hz⟩ := bcell hG; go_simp; exact hK _ (gives_val)
  apply chain_eq (D := [(3, none)]) rfl (by kernel_rfl)
  · intro ρ W ⟨p1, p2, p3⟩ hG hF K hK; (try simp [FactsD] at hF); have ⟨hc, hf, hz⟩ := bcell hG; go_simp; exact hK _ (gives_val)
  apply chain_eq (D := [(37, some 0)]) rfl (by kernel_rfl)
  · intro ρ W ⟨p1, p2, p3⟩ hG hF K hK; (try simp [FactsD] at hF); have ⟨hc, hf, hz⟩ := bcell hG; go_simp; exact hK _ (gives_val)
  apply chain_eq (D := [(38, some 0)]) rfl (by kernel_rfl)
  · intro ρ W ⟨p1, p2, p3⟩ hG hF K hK; (try simp [FactsD] at hF); have ⟨hc, hf, hz⟩ := bcell hG; go_simp; exact hK _ (gives_val)
  apply chain_eq (D := [(39, some 0)]) rfl (by kernel_rfl)
  · intro ρ W ⟨p1, p2, p3⟩ hG hF K hK; (try simp [FactsD] at hF); have ⟨hc, hf, hz⟩ := bcell hG; go_simp; exact hK _ (gives_val)
  apply chain_eq (D := [(36, some 4), (40, some 0)]) rfl (by kernel_rfl)
  · intro ρ W ⟨p1, p2, p3⟩ hG hF K hK; (try simp [FactsD] at hF); have ⟨hc, hf, hz⟩ := bcell hG; go_simp; exact hK _ (gives_val)
  apply chain_eq (D := [(3, none)]) rfl (by kernel_rfl)
  · intro ρ W ⟨p1, p2, p3⟩ hG hF K hK; (try simp [FactsD] at hF); have ⟨hc, hf, hz⟩ := bcell hG; go_simp; exact hK _ (gives_val)
  apply chain_eq (D := [(42, some 0)]) rfl (by kernel_rfl)
  · intro ρ W ⟨p1, p2, p3⟩ hG hF K hK; (try simp [FactsD] at hF); have ⟨hc, hf, hz⟩ := bcell hG; go_simp; exact hK _ (gives_val)
  apply chain_eq (D := [(43, some 0)]) rfl (by kernel_rfl)
  · intro ρ W ⟨p1, p2, p3⟩ hG hF K hK; (try simp [FactsD] at hF); have ⟨hc, hf, hz⟩ := bcell hG; go_simp; exact hK _ (gives_val)
  apply chain_eq (D := [(44, some 0)]) rfl (by kernel_rfl)
  · intro ρ W ⟨p1, p2, p3⟩ hG hF K hK; (try simp [FactsD] at hF); have ⟨hc, hf, hz⟩ := bcell hG; go_simp; exact hK _ (gives_val)
  apply chain_eq (D := [(3, none)]) rfl (by kernel_rfl)
  · intro ρ W ⟨p1, p2, p3⟩ hG hF K hK; (try simp [FactsD] at hF); have ⟨hc, hf, hz⟩ := bcell hG; go_simp; exact hK _ (gives_val)
  apply chain_eq (D := [(46, some 0)]) rfl (by kernel_rfl)
  · intro ρ W ⟨p1, p2, p3⟩ hG hF K hK; (try simp [FactsD] at hF); have ⟨hc, hf, hz⟩ := bcell hG; go_simp; exact hK _ (gives_val)
  apply chain_eq (D := [(47, some 0)]) rfl (by kernel_rfl)
  · intro ρ W ⟨p1, p2, p3⟩ hG hF K hK; (try simp [FactsD] at hF); have ⟨hc, hf, hz⟩ := bcell hG; go_simp; exact hK _ (gives_val)
  apply chain_eq (D := [(48, some 0)]) rfl (by kernel_rfl)
  · intro ρ W ⟨p1, p2, p3⟩ hG hF K hK; (try simp [FactsD] at hF); have ⟨hc, hf, hz⟩ := bcell hG; go_simp; exact hK _ (gives_val)
  apply chain_eq (D := [(45, some 4), (49, some 0)]) rfl (by kernel_rfl)
  · intro ρ W ⟨p1, p2, p3⟩ hG hF K hK; (try simp [FactsD] at hF); have ⟨hc, hf, hz⟩ := bcell hG; go_simp; exact hK _ (gives_val)
  apply chain_eq (D := [(41, some 9), (50, some 0)]) rfl (by kernel_rfl)
  · intro ρ W ⟨p1, p2, p3⟩ hG hF K hK; (try simp [FactsD] at hF); have ⟨hc, hf, hz⟩ := bcell hG; go_simp; exact hK _ (gives_val)
  apply chain_eq (D := [(2, none)]) rfl (by kernel_rfl)
  · intro ρ W ⟨p1, p2, p3⟩ hG hF K hK; (try simp [FactsD] at hF); have ⟨hc, hf, hz⟩ := bcell hG; go_simp; exact hK _ (gives_val)
  apply chain_eq (D := [(52, some 0)]) rfl (by kernel_rfl)
  · intro ρ W ⟨p1, p2, p3⟩ hG hF K hK; (try simp [FactsD] at hF); have ⟨hc, hf, hz⟩ := bcell hG; go_simp; exact hK _ (gives_val)
  apply chain_eq (D := [(53, some 0)]) rfl (by kernel_rfl)
  · intro ρ W ⟨p1, p2, p3⟩ hG hF K hK; (try simp [FactsD] at hF); have ⟨hc, hf, hz⟩ := bcell hG; go_simp; exact hK _ (gives_val)
  apply chain_eq (D := [(51, some 3), (54, some 0)]) rfl (by kernel_rfl)
  · intro ρ W ⟨p1, p2, p3⟩ hG hF K hK; (try simp [FactsD] at hF); have ⟨hc, hf, hz⟩ := bcell hG; go_simp; exact hK _ (gives_val)
  apply chain_eq (D := [(13, some 42), (32, some 23), (55, some 0)]) rfl (by kernel_rfl)
  · intro ρ W ⟨p1, p2, p3⟩ hG hF K hK; (try simp [FactsD] at hF); have ⟨hc, hf, hz⟩ := bcell hG; go_simp; exact hK _ (gives_val)
  refine chain_any (V := FreshAt (w.heap.size + 3) [.nilIface, .int .i64 0, .int .i64 0, .bool false] 127) (D := []) rfl (by kernel_rfl) (FreshAt.lasts _ _ _) ?_ ?_
  · intro ρ W ⟨p1, p2, p3⟩ hG hF K hK; (try simp [FactsD] at hF); have ⟨hc, hf, hz⟩ := bcell hG; have hsz : w.heap.size + 3 ≤ W.heap.size := (by have := Below.size hG; simp at this; omega); go_simp; exact hK _ (⟨FreshAt.new hsz _ _, Gr.alloc _ _⟩)
  refine chain_done ?_
  intro vs W hG hV
  obtain ⟨e51, e50, -⟩ := hV
  simp only [Nat.reduceSub] at e50
  simp only [Nat.reduceSub] at e51
  set_option maxRecDepth 100000 in
  simp only [lay, Act.put, List.getElem?_toArray, List.getElem?_cons_succ, List.getElem?_cons_zero, Option.bind_some, List.setIfInBounds_toArray, List.set_cons_succ, List.set_cons_zero]
  generalize vs 0 = v0
  generalize vs 1 = v1
  generalize vs 2 = v2
  generalize vs 3 = v3
  generalize vs 4 = v4
  generalize vs 5 = v5
  generalize vs 6 = v6
  generalize vs 7 = v7
  generalize vs 8 = v8
  generalize vs 9 = v9
  generalize vs 10 = v10
  generalize vs 11 = v11
  generalize vs 12 = v12
  generalize vs 13 = v13
  generalize vs 14 = v14
  generalize vs 15 = v15
  generalize vs 16 = v16
  generalize vs 17 = v17
  generalize vs 18 = v18
  generalize vs 19 = v19
  generalize vs 20 = v20
  generalize vs 21 = v21
  generalize vs 22 = v22
  generalize vs 23 = v23
  generalize vs 24 = v24
  generalize vs 25 = v25
  generalize vs 26 = v26
  generalize vs 27 = v27
  generalize vs 28 = v28
  generalize vs 29 = v29
  generalize vs 30 = v30
  generalize vs 31 = v31
  generalize vs 32 = v32
  generalize vs 33 = v33
  generalize vs 34 = v34
  generalize vs 35 = v35
  generalize vs 36 = v36
  generalize vs 37 = v37
  generalize vs 38 = v38
  generalize vs 39 = v39
  generalize vs 40 = v40
  generalize vs 41 = v41
  generalize vs 42 = v42
  generalize vs 43 = v43
  generalize vs 44 = v44
  generalize vs 45 = v45
  generalize vs 46 = v46
  generalize vs 47 = v47
  generalize vs 48 = v48
  generalize vs 49 = v49
  generalize vs 50 = v50 at *
  generalize vs 51 = v51 at *
  subst e50
  obtain ⟨hc, hf, hz⟩ := bcell hG
  obtain ⟨b5, rfl, hN, hbox⟩ := e51
  have x0 := hbox.cell (i := 0) rfl
  have x1 := hbox.cell (i := 1) rfl
  have x2 := hbox.cell (i := 2) rfl
  have x3 := hbox.cell (i := 3) rfl
  have y0 := hbox.free 0
  have y1 := hbox.free 1
  have y2 := hbox.free 2
  have y3 := hbox.free 3
  clear hbox
  have n0 : w.heap.size ≠ b5 := by omega
  have n1 : w.heap.size + 1 ≠ b5 := by omega
  have n2 : w.heap.size + 2 ≠ b5 := by omega
  have m0 : b5 ≠ w.heap.size := by omega
  have m1 : b5 ≠ w.heap.size + 1 := by omega
  have m2 : b5 ≠ w.heap.size + 2 := by omega
  go_wp2
  exact bodyPost_ret (v := .agg #[.iface 180 (.agg #[.int .i64 ne, .int .i64 fa]), .int .i64 (xa - xf), .int .i64 (xb - xe), .bool (decide (ti < imax (xc - xh) (xg - xd)))]) (by simp [results, Try.results126, go_sem, hc, imax]) rfl ⟨rfl, (((((((((bgr ((((Below.refl _ _).alloc (by first | (simp; done) | (simp; omega) | omega) _).alloc (by first | (simp; done) | (simp; omega) | omega) _).alloc (by first | (simp; done) | (simp; omega) | omega) _) (by first | (simp; done) | (simp; omega) | omega) hG).setCell (by first | (simp; done) | (simp; omega) | omega) _).setCell (by first | (simp; done) | (simp; omega) | omega) _).setCell (by first | (simp; done) | (simp; omega) | omega) _).setCell (by first | (simp; done) | (simp; omega) | omega) _).setCell (by first | (simp; done) | (simp; omega) | omega) _).setCell (by first | (simp; done) | (simp; omega) | omega) _).setCell (by first | (simp; done) | (simp; omega) | omega) _).setCell (by first | (simp; done) | (simp; omega) | omega) _)⟩
set_option maxHeartbeats 1600000 in
theorem see_mark (fl fh bl bh ti ne fa : Int) (th sv : Value) (plo phi : Int) (xa xb xc xd xe xf xg xh xz : Int) (w : World) (ha : inPlate xa) (hb : inPlate xb) (hc : inPlate xc) (hd : inPlate xd) (he : inPlate xe) (hf : inPlate xf) (hg : inPlate xg) (hh : inPlate xh) (hz : (xz != 0) = true) :
    Calls Try.prog 126 #[.agg #[.int .i64 fl, .int .i64 fh, .int .i64 bl, .int .i64 bh, .int .i64 ti, .int .i64 ne, .int .i64 fa, th, sv, .int .i64 plo, .int .i64 phi], .agg #[.int .i64 xa, .int .i64 xb, .int .i64 xc, .int .i64 xd, .int .i64 xe, .int .i64 xf, .int .i64 xg, .int .i64 xh, .int .i64 xz]] w fun e w' => e = .returned (.agg #[.iface 181 (.int .i64 xz), .int .i64 (xa - xf), .int .i64 (xb - xe), .bool (decide (ti < imax (xc - xh) (xg - xd)))]) ∧ Below w.heap.size w w' := by
  obtain ⟨a0, a1⟩ := ha
  obtain ⟨b0, b1⟩ := hb
  obtain ⟨c0, c1⟩ := hc
  obtain ⟨d0, d1⟩ := hd
  obtain ⟨e0, e1⟩ := he
  obtain ⟨f0, f1⟩ := hf
  obtain ⟨g0, g1⟩ := hg
  obtain ⟨h0, h1⟩ := hh
  have hmx : ∀ (x y : Int), (if x < y then y else x) = imax x y := fun _ _ => rfl
  go_enter Try.func126, Try.ntmps126
  go_wp2
  refine region2 52 ?_ ?_ ?_
  · kernel_rfl
  · kernel_rfl
  simp only [List.take_succ_cons, List.take_zero, List.drop_succ_cons, List.drop_zero]
  apply chain_eq (D := [(2, none)]) rfl (by kernel_rfl)
  · intro ρ W ⟨p1, p2, p3⟩ hG hF K hK; (try simp [FactsD] at hF); have ⟨hc, hf, hz⟩ := bcell hG; go_simp; exact hK _ (gives_val)
  apply chain_eq (D := [(6, some 0)]) rfl (by kernel_rfl)
  · intro ρ W ⟨p1, p2, p3⟩ hG hF K hK; (try simp [FactsD] at hF); have ⟨hc, hf, hz⟩ := bcell hG; go_simp; exact hK _ (gives_val)
  apply chain_eq (D := [(7, some 0)]) rfl (by kernel_rfl)
  · intro ρ W ⟨p1, p2, p3⟩ hG hF K hK; (try simp [FactsD] at hF); have ⟨hc, hf, hz⟩ := bcell hG; go_simp; exact hK _ (gives_val)
  apply chain_eq (D := [(2, none)]) rfl (by kernel_rfl)
  · intro ρ W ⟨p1, p2, p3⟩ hG hF K hK; (try simp [FactsD] at hF); have ⟨hc, hf, hz⟩ := bcell hG; go_simp; exact hK _ (gives_val)
  apply chain_eq (D := [(9, some 0)]) rfl (by kernel_rfl)
  · intro ρ W ⟨p1, p2, p3⟩ hG hF K hK; (try simp [FactsD] at hF); have ⟨hc, hf, hz⟩ := bcell hG; go_simp; exact hK _ (gives_val)
  apply chain_eq (D := [(10, some 0)]) rfl (by kernel_rfl)
  · intro ρ W ⟨p1, p2, p3⟩ hG hF K hK; (try simp [FactsD] at hF); have ⟨hc, hf, hz⟩ := bcell hG; go_simp; exact hK _ (gives_val)
  apply chain_eq (D := [(8, some 3), (11, some 0)]) rfl (by kernel_rfl)
  · intro ρ W ⟨p1, p2, p3⟩ hG hF K hK; (try simp [FactsD] at hF); have ⟨hc, hf, hz⟩ := bcell hG; go_simp; exact hK _ (gives_val)
  apply chain_eq (D := [(12, some 0)]) rfl (by kernel_rfl)
  · intro ρ W ⟨p1, p2, p3⟩ hG hF K hK; (try simp [FactsD] at hF); have ⟨hc, hf, hz⟩ := bcell hG; go_simp; exact hK _ (gives_val)
  apply chain_eq (D := [(3, none)]) rfl (by kernel_rfl)
  · intro ρ W ⟨p1, p2, p3⟩ hG hF K hK; (try simp [FactsD] at hF); have ⟨hc, hf, hz⟩ := bcell hG; go_simp; exact hK _ (gives_val)
  apply chain_eq (D := [(14, some 0)]) rfl (by kernel_rfl)
  · intro ρ W ⟨p1, p2, p3⟩ hG hF K hK; (try simp [FactsD] at hF); have ⟨hc, hf, hz⟩ := bcell hG; go_simp; exact hK _ (gives_val)
  apply chain_eq (D := [(15, some 0)]) rfl (by kernel_rfl)
  · intro ρ W ⟨p1, p2, p3⟩ hG hF K hK; (try simp [FactsD] at hF); have ⟨hc, hf, hz⟩ := bcell hG; go_simp; exact hK _ (gives_val)
  apply chain_eq (D := [(16, some 0)]) rfl (by kernel_rfl)
  · intro ρ W ⟨p1, p2, p3⟩ hG hF K hK; (try simp [FactsD] at hF); have ⟨hc, hf, hz⟩ := bcell hG; go_simp; exact hK _ (gives_val)
  apply chain_eq (D := [(3, none)]) rfl (by kernel_rfl)
  · intro ρ W ⟨p1, p2, p3⟩ hG hF K hK; (try simp [FactsD] at hF); have ⟨hc, hf, hz⟩ := bcell hG; go_simp; exact hK _ (gives_val)
  apply chain_eq (D := [(18, some 0)]) rfl (by kernel_rfl)
  · intro ρ W ⟨p1, p2, p3⟩ hG hF K hK; (try simp [FactsD] at hF); have ⟨hc, hf, hz⟩ := bcell hG; go_simp; exact hK _ (gives_val)
  apply chain_eq (D := [(19, some 0)]) rfl (by kernel_rfl)
  · intro ρ W ⟨p1, p2, p3⟩ hG hF K hK; (try simp [FactsD] at hF); have ⟨hc, hf, hz⟩ := bcell hG; go_simp; exact hK _ (gives_val)
  apply chain_eq (D := [(20, some 0)]) rfl (by kernel_rfl)
  · intro ρ W ⟨p1, p2, p3⟩ hG hF K hK; (try simp [FactsD] at hF); have ⟨hc, hf, hz⟩ := bcell hG; go_simp; exact hK _ (gives_val)
  apply chain_eq (D := [(17, some 4), (21, some 0)]) rfl (by kernel_rfl)
  · intro ρ W ⟨p1, p2, p3⟩ hG hF K hK; (try simp [FactsD] at hF); have ⟨hc, hf, hz⟩ := bcell hG; go_simp; exact hK _ (gives_val)
  apply chain_eq (D := [(3, none)]) rfl (by kernel_rfl)
  · intro ρ W ⟨p1, p2, p3⟩ hG hF K hK; (try simp [FactsD] at hF); have ⟨hc, hf, hz⟩ := bcell hG; go_simp; exact hK _ (gives_val)
  apply chain_eq (D := [(23, some 0)]) rfl (by kernel_rfl)
  · intro ρ W ⟨p1, p2, p3⟩ hG hF K hK; (try simp [FactsD] at hF); have ⟨hc, hf, hz⟩ := bcell hG; go_simp; exact hK _ (gives_val)
  apply chain_eq (D := [(24, some 0)]) rfl (by kernel_rfl)
  · intro ρ W ⟨p1, p2, p3⟩ hG hF K hK; (try simp [FactsD] at hF); have ⟨hc, hf, hz⟩ := bcell hG; go_simp; exact hK _ (gives_val)
  apply chain_eq (D := [(25, some 0)]) rfl (by kernel_rfl)
  · intro ρ W ⟨p1, p2, p3⟩ hG hF K hK; (try simp [FactsD] at hF); have ⟨hc, hf, hz⟩ := bcell hG; go_simp; exact hK _ (gives_val)
  apply chain_eq (D := [(3, none)]) rfl (by kernel_rfl)
  · intro ρ W ⟨p1, p2, p3⟩ hG hF K hK; (try simp [FactsD] at hF); have ⟨hc, hf, hz⟩ := bcell hG; go_simp; exact hK _ (gives_val)
  apply chain_eq (D := [(27, some 0)]) rfl (by kernel_rfl)
  · intro ρ W ⟨p1, p2, p3⟩ hG hF K hK; (try simp [FactsD] at hF); have ⟨hc, hf, hz⟩ := bcell hG; go_simp; exact hK _ (gives_val)
  apply chain_eq (D := [(28, some 0)]) rfl (by kernel_rfl)
  · intro ρ W ⟨p1, p2, p3⟩ hG hF K hK; (try simp [FactsD] at hF); have ⟨hc, hf, hz⟩ := bcell hG; go_simp; exact hK _ (gives_val)
  apply chain_eq (D := [(29, some 0)]) rfl (by kernel_rfl)
  · intro ρ W ⟨p1, p2, p3⟩ hG hF K hK; (try simp [FactsD] at hF); have ⟨hc, hf, hz⟩ := bcell hG; go_simp; exact hK _ (gives_val)
  apply chain_eq (D := [(26, some 4), (30, some 0)]) rfl (by kernel_rfl)
  · intro ρ W ⟨p1, p2, p3⟩ hG hF K hK; (try simp [FactsD] at hF); have ⟨hc, hf, hz⟩ := bcell hG; go_simp; exact hK _ (gives_val)
  apply chain_eq (D := [(22, some 9), (31, some 0)]) rfl (by kernel_rfl)
  · intro ρ W ⟨p1, p2, p3⟩ hG hF K hK; (try simp [FactsD] at hF); have ⟨hc, hf, hz⟩ := bcell hG; go_simp; exact hK _ (gives_call (span_any _ _ _))
  apply chain_eq (D := [(3, none)]) rfl (by kernel_rfl)
  · intro ρ W ⟨p1, p2, p3⟩ hG hF K hK; (try simp [FactsD] at hF); have ⟨hc, hf, hz⟩ := bcell hG; go_simp; exact hK _ (gives_val)
  apply chain_eq (D := [(33, some 0)]) rfl (by kernel_rfl)
  · intro ρ W ⟨p1, p2, p3⟩ hG hF K hK; (try simp [FactsD] at hF); have ⟨hc, hf, hz⟩ := bcell hG; go_simp; exact hK _ (gives_val)
  apply chain_eq (D := [(34, some 0)]) rfl (by kernel_rfl)
  · intro ρ W ⟨p1, p2, p3⟩ hG hF K hK; (try simp [FactsD] at hF); have ⟨hc, hf, hz⟩ := bcell hG; go_simp; exact hK _ (gives_val)
  apply chain_eq (D := [(35, some 0)]) rfl (by kernel_rfl)
  · intro ρ W ⟨p1, p2, p3⟩ hG hF K hK; (try simp [FactsD] at hF); have ⟨hc, hf, hz⟩ := bcell hG; go_simp; exact hK _ (gives_val)
  apply chain_eq (D := [(3, none)]) rfl (by kernel_rfl)
  · intro ρ W ⟨p1, p2, p3⟩ hG hF K hK; (try simp [FactsD] at hF); have ⟨hc, hf, hz⟩ := bcell hG; go_simp; exact hK _ (gives_val)
  apply chain_eq (D := [(37, some 0)]) rfl (by kernel_rfl)
  · intro ρ W ⟨p1, p2, p3⟩ hG hF K hK; (try simp [FactsD] at hF); have ⟨hc, hf, hz⟩ := bcell hG; go_simp; exact hK _ (gives_val)
  apply chain_eq (D := [(38, some 0)]) rfl (by kernel_rfl)
  · intro ρ W ⟨p1, p2, p3⟩ hG hF K hK; (try simp [FactsD] at hF); have ⟨hc, hf, hz⟩ := bcell hG; go_simp; exact hK _ (gives_val)
  apply chain_eq (D := [(39, some 0)]) rfl (by kernel_rfl)
  · intro ρ W ⟨p1, p2, p3⟩ hG hF K hK; (try simp [FactsD] at hF); have ⟨hc, hf, hz⟩ := bcell hG; go_simp; exact hK _ (gives_val)
  apply chain_eq (D := [(36, some 4), (40, some 0)]) rfl (by kernel_rfl)
  · intro ρ W ⟨p1, p2, p3⟩ hG hF K hK; (try simp [FactsD] at hF); have ⟨hc, hf, hz⟩ := bcell hG; go_simp; exact hK _ (gives_val)
  apply chain_eq (D := [(3, none)]) rfl (by kernel_rfl)
  · intro ρ W ⟨p1, p2, p3⟩ hG hF K hK; (try simp [FactsD] at hF); have ⟨hc, hf, hz⟩ := bcell hG; go_simp; exact hK _ (gives_val)
  apply chain_eq (D := [(42, some 0)]) rfl (by kernel_rfl)
  · intro ρ W ⟨p1, p2, p3⟩ hG hF K hK; (try simp [FactsD] at hF); have ⟨hc, hf, hz⟩ := bcell hG; go_simp; exact hK _ (gives_val)
  apply chain_eq (D := [(43, some 0)]) rfl (by kernel_rfl)
  · intro ρ W ⟨p1, p2, p3⟩ hG hF K hK; (try simp [FactsD] at hF); have ⟨hc, hf, hz⟩ := bcell hG; go_simp; exact hK _ (gives_val)
  apply chain_eq (D := [(44, some 0)]) rfl (by kernel_rfl)
  · intro ρ W ⟨p1, p2, p3⟩ hG hF K hK; (try simp [FactsD] at hF); have ⟨hc, hf, hz⟩ := bcell hG; go_simp; exact hK _ (gives_val)
  apply chain_eq (D := [(3, none)]) rfl (by kernel_rfl)
  · intro ρ W ⟨p1, p2, p3⟩ hG hF K hK; (try simp [FactsD] at hF); have ⟨hc, hf, hz⟩ := bcell hG; go_simp; exact hK _ (gives_val)
  apply chain_eq (D := [(46, some 0)]) rfl (by kernel_rfl)
  · intro ρ W ⟨p1, p2, p3⟩ hG hF K hK; (try simp [FactsD] at hF); have ⟨hc, hf, hz⟩ := bcell hG; go_simp; exact hK _ (gives_val)
  apply chain_eq (D := [(47, some 0)]) rfl (by kernel_rfl)
  · intro ρ W ⟨p1, p2, p3⟩ hG hF K hK; (try simp [FactsD] at hF); have ⟨hc, hf, hz⟩ := bcell hG; go_simp; exact hK _ (gives_val)
  apply chain_eq (D := [(48, some 0)]) rfl (by kernel_rfl)
  · intro ρ W ⟨p1, p2, p3⟩ hG hF K hK; (try simp [FactsD] at hF); have ⟨hc, hf, hz⟩ := bcell hG; go_simp; exact hK _ (gives_val)
  apply chain_eq (D := [(45, some 4), (49, some 0)]) rfl (by kernel_rfl)
  · intro ρ W ⟨p1, p2, p3⟩ hG hF K hK; (try simp [FactsD] at hF); have ⟨hc, hf, hz⟩ := bcell hG; go_simp; exact hK _ (gives_val)
  apply chain_eq (D := [(41, some 9), (50, some 0)]) rfl (by kernel_rfl)
  · intro ρ W ⟨p1, p2, p3⟩ hG hF K hK; (try simp [FactsD] at hF); have ⟨hc, hf, hz⟩ := bcell hG; go_simp; exact hK _ (gives_val)
  apply chain_eq (D := [(2, none)]) rfl (by kernel_rfl)
  · intro ρ W ⟨p1, p2, p3⟩ hG hF K hK; (try simp [FactsD] at hF); have ⟨hc, hf, hz⟩ := bcell hG; go_simp; exact hK _ (gives_val)
  apply chain_eq (D := [(52, some 0)]) rfl (by kernel_rfl)
  · intro ρ W ⟨p1, p2, p3⟩ hG hF K hK; (try simp [FactsD] at hF); have ⟨hc, hf, hz⟩ := bcell hG; go_simp; exact hK _ (gives_val)
  apply chain_eq (D := [(53, some 0)]) rfl (by kernel_rfl)
  · intro ρ W ⟨p1, p2, p3⟩ hG hF K hK; (try simp [FactsD] at hF); have ⟨hc, hf, hz⟩ := bcell hG; go_simp; exact hK _ (gives_val)
  apply chain_eq (D := [(51, some 3), (54, some 0)]) rfl (by kernel_rfl)
  · intro ρ W ⟨p1, p2, p3⟩ hG hF K hK; (try simp [FactsD] at hF); have ⟨hc, hf, hz⟩ := bcell hG; go_simp; exact hK _ (gives_val)
  apply chain_eq (D := [(13, some 42), (32, some 23), (55, some 0)]) rfl (by kernel_rfl)
  · intro ρ W ⟨p1, p2, p3⟩ hG hF K hK; (try simp [FactsD] at hF); have ⟨hc, hf, hz⟩ := bcell hG; go_simp; exact hK _ (gives_val)
  refine chain_any (V := FreshAt (w.heap.size + 3) [.nilIface, .int .i64 0, .int .i64 0, .bool false] 127) (D := []) rfl (by kernel_rfl) (FreshAt.lasts _ _ _) ?_ ?_
  · intro ρ W ⟨p1, p2, p3⟩ hG hF K hK; (try simp [FactsD] at hF); have ⟨hc, hf, hz⟩ := bcell hG; have hsz : w.heap.size + 3 ≤ W.heap.size := (by have := Below.size hG; simp at this; omega); go_simp; exact hK _ (⟨FreshAt.new hsz _ _, Gr.alloc _ _⟩)
  refine chain_done ?_
  intro vs W hG hV
  obtain ⟨e51, e50, -⟩ := hV
  simp only [Nat.reduceSub] at e50
  simp only [Nat.reduceSub] at e51
  set_option maxRecDepth 100000 in
  simp only [lay, Act.put, List.getElem?_toArray, List.getElem?_cons_succ, List.getElem?_cons_zero, Option.bind_some, List.setIfInBounds_toArray, List.set_cons_succ, List.set_cons_zero]
  generalize vs 0 = v0
  generalize vs 1 = v1
  generalize vs 2 = v2
  generalize vs 3 = v3
  generalize vs 4 = v4
  generalize vs 5 = v5
  generalize vs 6 = v6
  generalize vs 7 = v7
  generalize vs 8 = v8
  generalize vs 9 = v9
  generalize vs 10 = v10
  generalize vs 11 = v11
  generalize vs 12 = v12
  generalize vs 13 = v13
  generalize vs 14 = v14
  generalize vs 15 = v15
  generalize vs 16 = v16
  generalize vs 17 = v17
  generalize vs 18 = v18
  generalize vs 19 = v19
  generalize vs 20 = v20
  generalize vs 21 = v21
  generalize vs 22 = v22
  generalize vs 23 = v23
  generalize vs 24 = v24
  generalize vs 25 = v25
  generalize vs 26 = v26
  generalize vs 27 = v27
  generalize vs 28 = v28
  generalize vs 29 = v29
  generalize vs 30 = v30
  generalize vs 31 = v31
  generalize vs 32 = v32
  generalize vs 33 = v33
  generalize vs 34 = v34
  generalize vs 35 = v35
  generalize vs 36 = v36
  generalize vs 37 = v37
  generalize vs 38 = v38
  generalize vs 39 = v39
  generalize vs 40 = v40
  generalize vs 41 = v41
  generalize vs 42 = v42
  generalize vs 43 = v43
  generalize vs 44 = v44
  generalize vs 45 = v45
  generalize vs 46 = v46
  generalize vs 47 = v47
  generalize vs 48 = v48
  generalize vs 49 = v49
  generalize vs 50 = v50 at *
  generalize vs 51 = v51 at *
  subst e50
  obtain ⟨hc, hf, hz⟩ := bcell hG
  obtain ⟨b5, rfl, hN, hbox⟩ := e51
  have x0 := hbox.cell (i := 0) rfl
  have x1 := hbox.cell (i := 1) rfl
  have x2 := hbox.cell (i := 2) rfl
  have x3 := hbox.cell (i := 3) rfl
  have y0 := hbox.free 0
  have y1 := hbox.free 1
  have y2 := hbox.free 2
  have y3 := hbox.free 3
  clear hbox
  have n0 : w.heap.size ≠ b5 := by omega
  have n1 : w.heap.size + 1 ≠ b5 := by omega
  have n2 : w.heap.size + 2 ≠ b5 := by omega
  have m0 : b5 ≠ w.heap.size := by omega
  have m1 : b5 ≠ w.heap.size + 1 := by omega
  have m2 : b5 ≠ w.heap.size + 2 := by omega
  go_wp2
  exact bodyPost_ret (v := .agg #[.iface 181 (.int .i64 xz), .int .i64 (xa - xf), .int .i64 (xb - xe), .bool (decide (ti < imax (xc - xh) (xg - xd)))]) (by simp [results, Try.results126, go_sem, hc, imax]) rfl ⟨rfl, ((((((((((bgr ((((Below.refl _ _).alloc (by first | (simp; done) | (simp; omega) | omega) _).alloc (by first | (simp; done) | (simp; omega) | omega) _).alloc (by first | (simp; done) | (simp; omega) | omega) _) (by first | (simp; done) | (simp; omega) | omega) hG).setCell (by first | (simp; done) | (simp; omega) | omega) _).setCell (by first | (simp; done) | (simp; omega) | omega) _).setCell (by first | (simp; done) | (simp; omega) | omega) _).setCell (by first | (simp; done) | (simp; omega) | omega) _).setCell (by first | (simp; done) | (simp; omega) | omega) _).setCell (by first | (simp; done) | (simp; omega) | omega) _).setCell (by first | (simp; done) | (simp; omega) | omega) _).setCell (by first | (simp; done) | (simp; omega) | omega) _).setCell (by first | (simp; done) | (simp; omega) | omega) _)⟩

theorem see_any (fl fh bl bh ti ne fa : Int) (th sv : Value) (plo phi : Int) (t : Th) (w : World) (h : t.ok) : Calls Try.prog 126 #[.agg #[.int .i64 fl, .int .i64 fh, .int .i64 bl, .int .i64 bh, .int .i64 ti, .int .i64 ne, .int .i64 fa, th, sv, .int .i64 plo, .int .i64 phi], t.val] w fun e w' => e = .returned (t.see ti ne fa).val ∧ Below w.heap.size w w' := by
  obtain ⟨a, b, c, d, e, f, g, k, z⟩ := t
  obtain ⟨h0, h1, h2, h3, h4, h5, h6, h7⟩ := h
  by_cases hz : z = 0
  · have hv : Sg.val (Th.see ti ne fa ⟨a, b, c, d, e, f, g, k, z⟩) = .agg #[.iface 180 (.agg #[.int .i64 ne, .int .i64 fa]), .int .i64 (a - f), .int .i64 (b - e), .bool (decide (ti < imax (c - k) (g - d)))] := by
      simp [Sg.val, Th.see, Th.wit, hz, Wit.val]
    rw [hv]
    exact see_far fl fh bl bh ti ne fa th sv plo phi a b c d e f g k z w h0 h1 h2 h3 h4 h5 h6 h7 (by simpa using hz)
  · have hv : Sg.val (Th.see ti ne fa ⟨a, b, c, d, e, f, g, k, z⟩) = .agg #[.iface 181 (.int .i64 z), .int .i64 (a - f), .int .i64 (b - e), .bool (decide (ti < imax (c - k) (g - d)))] := by
      simp [Sg.val, Th.see, Th.wit, hz, Wit.val]
    rw [hv]
    exact see_mark fl fh bl bh ti ne fa th sv plo phi a b c d e f g k z w h0 h1 h2 h3 h4 h5 h6 h7 (by simpa using hz)
end Go.Proofs.Ytjlaoiimbhlafaa.Pq
