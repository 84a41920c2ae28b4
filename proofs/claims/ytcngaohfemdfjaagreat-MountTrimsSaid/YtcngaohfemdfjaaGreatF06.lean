import Derived.Test.YtcngaohfemdfjaaGreatF05
set_option linter.unusedVariables false
set_option linter.unusedSimpArgs false
set_option maxRecDepth 100000
set_option maxHeartbeats 60000000
namespace Go.Proofs.YtcngaohfemdfjaaGreat
open Go.RowKit
structure Th where
  a : Int
  b : Int
  c : Int
  d : Int
  e : Int
  f : Int
  g : Int
  h : Int
  z : Int
def Th.val (t : Th) : Value := .agg #[.int .i64 t.a, .int .i64 t.b, .int .i64 t.c, .int .i64 t.d, .int .i64 t.e, .int .i64 t.f, .int .i64 t.g, .int .i64 t.h, .int .i64 t.z]
def Th.wit (ne fa : Int) (t : Th) : Wit := if t.z = 0 then .far ne fa else .mark t.z
def Th.see (ti ne fa : Int) (t : Th) : Sg := ⟨t.wit ne fa, t.a - t.f, t.b - t.e, decide (ti < imax (t.c - t.h) (t.g - t.d))⟩
def inPlate (x : Int) : Prop := -4000 ≤ x ∧ x ≤ 4000
def Th.ok (t : Th) : Prop := inPlate t.a ∧ inPlate t.b ∧ inPlate t.c ∧ inPlate t.d ∧ inPlate t.e ∧ inPlate t.f ∧ inPlate t.g ∧ inPlate t.h
theorem see_far (fl fh bl bh ti ne fa : Int) (th sv : Value) (plo phi : Int) (xa xb xc xd xe xf xg xh xz : Int) (w : World) (ha : inPlate xa) (hb : inPlate xb) (hc : inPlate xc) (hd : inPlate xd) (he : inPlate xe) (hf : inPlate xf) (hg : inPlate xg) (hh : inPlate xh) (hz : (xz != 0) = false) :
    Calls Tryz.prog 136 #[.agg #[.int .i64 fl, .int .i64 fh, .int .i64 bl, .int .i64 bh, .int .i64 ti, .int .i64 ne, .int .i64 fa, th, sv, .int .i64 plo, .int .i64 phi], .agg #[.int .i64 xa, .int .i64 xb, .int .i64 xc, .int .i64 xd, .int .i64 xe, .int .i64 xf, .int .i64 xg, .int .i64 xh, .int .i64 xz]] w fun e w' => e = .returned (.agg #[.iface 196 (.agg #[.int .i64 ne, .int .i64 fa]), .int .i64 (xa - xf), .int .i64 (xb - xe), .bool (decide (ti < imax (xc - xh) (xg - xd)))]) ∧ Below w.heap.size w w' := by
  obtain ⟨a0, a1⟩ := ha
  obtain ⟨b0, b1⟩ := hb
  obtain ⟨c0, c1⟩ := hc
  obtain ⟨d0, d1⟩ := hd
  obtain ⟨e0, e1⟩ := he
  obtain ⟨f0, f1⟩ := hf
  obtain ⟨g0, g1⟩ := hg
  obtain ⟨h0, h1⟩ := hh
  have hmx : ∀ (x y : Int), (if x < y then y else x) = imax x y := fun _ _ => rfl
  go_enter Tryz.func136, Tryz.ntmps136
  go_wp2
  refine region2 52 ?_ ?_ ?_
  · kernel_rfl
  · kernel_rfl
  simp only [List.take_succ_cons, List.take_zero, List.drop_succ_cons, List.drop_zero]
  apply ceq (D := [(2, none)]) rfl (by kernel_rfl)
  · intro ρ W ⟨p1,p2,p3⟩ hG hF K hK; (try simp [FD] at hF); have ⟨hc, hf, hz⟩ := bcell hG; go_simp; exact hK _ gv
  apply ceq (D := [(6, some 0)]) rfl (by kernel_rfl)
  · intro ρ W ⟨p1,p2,p3⟩ hG hF K hK; (try simp [FD] at hF); have ⟨hc, hf, hz⟩ := bcell hG; go_simp; exact hK _ gv
  apply ceq (D := [(7, some 0)]) rfl (by kernel_rfl)
  · intro ρ W ⟨p1,p2,p3⟩ hG hF K hK; (try simp [FD] at hF); have ⟨hc, hf, hz⟩ := bcell hG; go_simp; exact hK _ gv
  apply ceq (D := [(2, none)]) rfl (by kernel_rfl)
  · intro ρ W ⟨p1,p2,p3⟩ hG hF K hK; (try simp [FD] at hF); have ⟨hc, hf, hz⟩ := bcell hG; go_simp; exact hK _ gv
  apply ceq (D := [(9, some 0)]) rfl (by kernel_rfl)
  · intro ρ W ⟨p1,p2,p3⟩ hG hF K hK; (try simp [FD] at hF); have ⟨hc, hf, hz⟩ := bcell hG; go_simp; exact hK _ gv
  apply ceq (D := [(10, some 0)]) rfl (by kernel_rfl)
  · intro ρ W ⟨p1,p2,p3⟩ hG hF K hK; (try simp [FD] at hF); have ⟨hc, hf, hz⟩ := bcell hG; go_simp; exact hK _ gv
  apply ceq (D := [(8, some 3), (11, some 0)]) rfl (by kernel_rfl)
  · intro ρ W ⟨p1,p2,p3⟩ hG hF K hK; (try simp [FD] at hF); have ⟨hc, hf, hz⟩ := bcell hG; go_simp; exact hK _ gv
  apply ceq (D := [(12, some 0)]) rfl (by kernel_rfl)
  · intro ρ W ⟨p1,p2,p3⟩ hG hF K hK; (try simp [FD] at hF); have ⟨hc, hf, hz⟩ := bcell hG; go_simp; exact hK _ gv
  apply ceq (D := [(3, none)]) rfl (by kernel_rfl)
  · intro ρ W ⟨p1,p2,p3⟩ hG hF K hK; (try simp [FD] at hF); have ⟨hc, hf, hz⟩ := bcell hG; go_simp; exact hK _ gv
  apply ceq (D := [(14, some 0)]) rfl (by kernel_rfl)
  · intro ρ W ⟨p1,p2,p3⟩ hG hF K hK; (try simp [FD] at hF); have ⟨hc, hf, hz⟩ := bcell hG; go_simp; exact hK _ gv
  apply ceq (D := [(15, some 0)]) rfl (by kernel_rfl)
  · intro ρ W ⟨p1,p2,p3⟩ hG hF K hK; (try simp [FD] at hF); have ⟨hc, hf, hz⟩ := bcell hG; go_simp; exact hK _ gv
  apply ceq (D := [(16, some 0)]) rfl (by kernel_rfl)
  · intro ρ W ⟨p1,p2,p3⟩ hG hF K hK; (try simp [FD] at hF); have ⟨hc, hf, hz⟩ := bcell hG; go_simp; exact hK _ gv
  apply ceq (D := [(3, none)]) rfl (by kernel_rfl)
  · intro ρ W ⟨p1,p2,p3⟩ hG hF K hK; (try simp [FD] at hF); have ⟨hc, hf, hz⟩ := bcell hG; go_simp; exact hK _ gv
  apply ceq (D := [(18, some 0)]) rfl (by kernel_rfl)
  · intro ρ W ⟨p1,p2,p3⟩ hG hF K hK; (try simp [FD] at hF); have ⟨hc, hf, hz⟩ := bcell hG; go_simp; exact hK _ gv
  apply ceq (D := [(19, some 0)]) rfl (by kernel_rfl)
  · intro ρ W ⟨p1,p2,p3⟩ hG hF K hK; (try simp [FD] at hF); have ⟨hc, hf, hz⟩ := bcell hG; go_simp; exact hK _ gv
  apply ceq (D := [(20, some 0)]) rfl (by kernel_rfl)
  · intro ρ W ⟨p1,p2,p3⟩ hG hF K hK; (try simp [FD] at hF); have ⟨hc, hf, hz⟩ := bcell hG; go_simp; exact hK _ gv
  apply ceq (D := [(17, some 4), (21, some 0)]) rfl (by kernel_rfl)
  · intro ρ W ⟨p1,p2,p3⟩ hG hF K hK; (try simp [FD] at hF); have ⟨hc, hf, hz⟩ := bcell hG; go_simp; exact hK _ gv
  apply ceq (D := [(3, none)]) rfl (by kernel_rfl)
  · intro ρ W ⟨p1,p2,p3⟩ hG hF K hK; (try simp [FD] at hF); have ⟨hc, hf, hz⟩ := bcell hG; go_simp; exact hK _ gv
  apply ceq (D := [(23, some 0)]) rfl (by kernel_rfl)
  · intro ρ W ⟨p1,p2,p3⟩ hG hF K hK; (try simp [FD] at hF); have ⟨hc, hf, hz⟩ := bcell hG; go_simp; exact hK _ gv
  apply ceq (D := [(24, some 0)]) rfl (by kernel_rfl)
  · intro ρ W ⟨p1,p2,p3⟩ hG hF K hK; (try simp [FD] at hF); have ⟨hc, hf, hz⟩ := bcell hG; go_simp; exact hK _ gv
  apply ceq (D := [(25, some 0)]) rfl (by kernel_rfl)
  · intro ρ W ⟨p1,p2,p3⟩ hG hF K hK; (try simp [FD] at hF); have ⟨hc, hf, hz⟩ := bcell hG; go_simp; exact hK _ gv
  apply ceq (D := [(3, none)]) rfl (by kernel_rfl)
  · intro ρ W ⟨p1,p2,p3⟩ hG hF K hK; (try simp [FD] at hF); have ⟨hc, hf, hz⟩ := bcell hG; go_simp; exact hK _ gv
  apply ceq (D := [(27, some 0)]) rfl (by kernel_rfl)
  · intro ρ W ⟨p1,p2,p3⟩ hG hF K hK; (try simp [FD] at hF); have ⟨hc, hf, hz⟩ := bcell hG; go_simp; exact hK _ gv
  apply ceq (D := [(28, some 0)]) rfl (by kernel_rfl)
  · intro ρ W ⟨p1,p2,p3⟩ hG hF K hK; (try simp [FD] at hF); have ⟨hc, hf, hz⟩ := bcell hG; go_simp; exact hK _ gv
  apply ceq (D := [(29, some 0)]) rfl (by kernel_rfl)
  · intro ρ W ⟨p1,p2,p3⟩ hG hF K hK; (try simp [FD] at hF); have ⟨hc, hf, hz⟩ := bcell hG; go_simp; exact hK _ gv
  apply ceq (D := [(26, some 4), (30, some 0)]) rfl (by kernel_rfl)
  · intro ρ W ⟨p1,p2,p3⟩ hG hF K hK; (try simp [FD] at hF); have ⟨hc, hf, hz⟩ := bcell hG; go_simp; exact hK _ gv
  apply ceq (D := [(22, some 9), (31, some 0)]) rfl (by kernel_rfl)
  · intro ρ W ⟨p1,p2,p3⟩ hG hF K hK; (try simp [FD] at hF); have ⟨hc, hf, hz⟩ := bcell hG; go_simp; exact hK _ (gc (span_any _ _ _))
  apply ceq (D := [(3, none)]) rfl (by kernel_rfl)
  · intro ρ W ⟨p1,p2,p3⟩ hG hF K hK; (try simp [FD] at hF); have ⟨hc, hf, hz⟩ := bcell hG; go_simp; exact hK _ gv
  apply ceq (D := [(33, some 0)]) rfl (by kernel_rfl)
  · intro ρ W ⟨p1,p2,p3⟩ hG hF K hK; (try simp [FD] at hF); have ⟨hc, hf, hz⟩ := bcell hG; go_simp; exact hK _ gv
  apply ceq (D := [(34, some 0)]) rfl (by kernel_rfl)
  · intro ρ W ⟨p1,p2,p3⟩ hG hF K hK; (try simp [FD] at hF); have ⟨hc, hf, hz⟩ := bcell hG; go_simp; exact hK _ gv
  apply ceq (D := [(35, some 0)]) rfl (by kernel_rfl)
  · intro ρ W ⟨p1,p2,p3⟩ hG hF K hK; (try simp [FD] at hF); have ⟨hc, hf, hz⟩ := bcell hG; go_simp; exact hK _ gv
  apply ceq (D := [(3, none)]) rfl (by kernel_rfl)
  · intro ρ W ⟨p1,p2,p3⟩ hG hF K hK; (try simp [FD] at hF); have ⟨hc, hf, hz⟩ := bcell hG; go_simp; exact hK _ gv
  apply ceq (D := [(37, some 0)]) rfl (by kernel_rfl)
  · intro ρ W ⟨p1,p2,p3⟩ hG hF K hK; (try simp [FD] at hF); have ⟨hc, hf, hz⟩ := bcell hG; go_simp; exact hK _ gv
  apply ceq (D := [(38, some 0)]) rfl (by kernel_rfl)
  · intro ρ W ⟨p1,p2,p3⟩ hG hF K hK; (try simp [FD] at hF); have ⟨hc, hf, hz⟩ := bcell hG; go_simp; exact hK _ gv
  apply ceq (D := [(39, some 0)]) rfl (by kernel_rfl)
  · intro ρ W ⟨p1,p2,p3⟩ hG hF K hK; (try simp [FD] at hF); have ⟨hc, hf, hz⟩ := bcell hG; go_simp; exact hK _ gv
  apply ceq (D := [(36, some 4), (40, some 0)]) rfl (by kernel_rfl)
  · intro ρ W ⟨p1,p2,p3⟩ hG hF K hK; (try simp [FD] at hF); have ⟨hc, hf, hz⟩ := bcell hG; go_simp; exact hK _ gv
  apply ceq (D := [(3, none)]) rfl (by kernel_rfl)
  · intro ρ W ⟨p1,p2,p3⟩ hG hF K hK; (try simp [FD] at hF); have ⟨hc, hf, hz⟩ := bcell hG; go_simp; exact hK _ gv
  apply ceq (D := [(42, some 0)]) rfl (by kernel_rfl)
  · intro ρ W ⟨p1,p2,p3⟩ hG hF K hK; (try simp [FD] at hF); have ⟨hc, hf, hz⟩ := bcell hG; go_simp; exact hK _ gv
  apply ceq (D := [(43, some 0)]) rfl (by kernel_rfl)
  · intro ρ W ⟨p1,p2,p3⟩ hG hF K hK; (try simp [FD] at hF); have ⟨hc, hf, hz⟩ := bcell hG; go_simp; exact hK _ gv
  apply ceq (D := [(44, some 0)]) rfl (by kernel_rfl)
  · intro ρ W ⟨p1,p2,p3⟩ hG hF K hK; (try simp [FD] at hF); have ⟨hc, hf, hz⟩ := bcell hG; go_simp; exact hK _ gv
  apply ceq (D := [(3, none)]) rfl (by kernel_rfl)
  · intro ρ W ⟨p1,p2,p3⟩ hG hF K hK; (try simp [FD] at hF); have ⟨hc, hf, hz⟩ := bcell hG; go_simp; exact hK _ gv
  apply ceq (D := [(46, some 0)]) rfl (by kernel_rfl)
  · intro ρ W ⟨p1,p2,p3⟩ hG hF K hK; (try simp [FD] at hF); have ⟨hc, hf, hz⟩ := bcell hG; go_simp; exact hK _ gv
  apply ceq (D := [(47, some 0)]) rfl (by kernel_rfl)
  · intro ρ W ⟨p1,p2,p3⟩ hG hF K hK; (try simp [FD] at hF); have ⟨hc, hf, hz⟩ := bcell hG; go_simp; exact hK _ gv
  apply ceq (D := [(48, some 0)]) rfl (by kernel_rfl)
  · intro ρ W ⟨p1,p2,p3⟩ hG hF K hK; (try simp [FD] at hF); have ⟨hc, hf, hz⟩ := bcell hG; go_simp; exact hK _ gv
  apply ceq (D := [(45, some 4), (49, some 0)]) rfl (by kernel_rfl)
  · intro ρ W ⟨p1,p2,p3⟩ hG hF K hK; (try simp [FD] at hF); have ⟨hc, hf, hz⟩ := bcell hG; go_simp; exact hK _ gv
  apply ceq (D := [(41, some 9), (50, some 0)]) rfl (by kernel_rfl)
  · intro ρ W ⟨p1,p2,p3⟩ hG hF K hK; (try simp [FD] at hF); have ⟨hc, hf, hz⟩ := bcell hG; go_simp; exact hK _ gv
  apply ceq (D := [(2, none)]) rfl (by kernel_rfl)
  · intro ρ W ⟨p1,p2,p3⟩ hG hF K hK; (try simp [FD] at hF); have ⟨hc, hf, hz⟩ := bcell hG; go_simp; exact hK _ gv
  apply ceq (D := [(52, some 0)]) rfl (by kernel_rfl)
  · intro ρ W ⟨p1,p2,p3⟩ hG hF K hK; (try simp [FD] at hF); have ⟨hc, hf, hz⟩ := bcell hG; go_simp; exact hK _ gv
  apply ceq (D := [(53, some 0)]) rfl (by kernel_rfl)
  · intro ρ W ⟨p1,p2,p3⟩ hG hF K hK; (try simp [FD] at hF); have ⟨hc, hf, hz⟩ := bcell hG; go_simp; exact hK _ gv
  apply ceq (D := [(51, some 3), (54, some 0)]) rfl (by kernel_rfl)
  · intro ρ W ⟨p1,p2,p3⟩ hG hF K hK; (try simp [FD] at hF); have ⟨hc, hf, hz⟩ := bcell hG; go_simp; exact hK _ gv
  apply ceq (D := [(13, some 42), (32, some 23), (55, some 0)]) rfl (by kernel_rfl)
  · intro ρ W ⟨p1,p2,p3⟩ hG hF K hK; (try simp [FD] at hF); have ⟨hc, hf, hz⟩ := bcell hG; go_simp; exact hK _ gv
  refine cny (V := FreshAt (w.heap.size + 3) [.nilIface, .int .i64 0, .int .i64 0, .bool false] 111) (D := []) rfl (by kernel_rfl) (FreshAt.lasts _ _ _) ?_ ?_
  · intro ρ W ⟨p1,p2,p3⟩ hG hF K hK; (try simp [FD] at hF); have ⟨hc, hf, hz⟩ := bcell hG; have hsz : w.heap.size + 3 ≤ W.heap.size := (by have := Below.size hG; simp at this; omega); go_simp; exact hK _ (⟨FreshAt.new hsz _ _, Gr.alloc _ _⟩)
  refine cdn ?_
  intro vs W hG hV
  obtain ⟨e51, e50, -⟩ := hV
  simp only [Nat.reduceSub] at e50 e51
  set_option maxRecDepth 100000 in
  simp only [lay, Act.put, List.getElem?_toArray, List.getElem?_cons_succ, List.getElem?_cons_zero, Option.bind_some, List.setIfInBounds_toArray, List.set_cons_succ, List.set_cons_zero]
  generalize vs 0 = v0, vs 1 = v1, vs 2 = v2, vs 3 = v3, vs 4 = v4, vs 5 = v5, vs 6 = v6, vs 7 = v7, vs 8 = v8, vs 9 = v9, vs 10 = v10, vs 11 = v11, vs 12 = v12, vs 13 = v13, vs 14 = v14, vs 15 = v15, vs 16 = v16, vs 17 = v17, vs 18 = v18, vs 19 = v19, vs 20 = v20, vs 21 = v21, vs 22 = v22, vs 23 = v23, vs 24 = v24, vs 25 = v25, vs 26 = v26, vs 27 = v27, vs 28 = v28, vs 29 = v29, vs 30 = v30, vs 31 = v31, vs 32 = v32, vs 33 = v33, vs 34 = v34, vs 35 = v35, vs 36 = v36, vs 37 = v37, vs 38 = v38, vs 39 = v39, vs 40 = v40, vs 41 = v41, vs 42 = v42, vs 43 = v43, vs 44 = v44, vs 45 = v45, vs 46 = v46, vs 47 = v47, vs 48 = v48, vs 49 = v49
  generalize vs 50 = v50 at *
  generalize vs 51 = v51 at *
  subst e50
  obtain ⟨hc, hf, hz⟩ := bcell hG
  obtain ⟨b5, rfl, hN, hbox⟩ := e51
  have x0 := hbox.cell (i := 0) rfl
  have x1 := hbox.cell (i := 1) rfl
  have x2 := hbox.cell (i := 2) rfl
  have x3 := hbox.cell (i := 3) rfl
  have y0 := hbox.free 0
  have y1 := hbox.free 1
  have y2 := hbox.free 2
  have y3 := hbox.free 3
  clear hbox
  have n0 : w.heap.size ≠ b5 := by omega
  have n1 : w.heap.size + 1 ≠ b5 := by omega
  have n2 : w.heap.size + 2 ≠ b5 := by omega
  have m0 : b5 ≠ w.heap.size := by omega
  have m1 : b5 ≠ w.heap.size + 1 := by omega
  have m2 : b5 ≠ w.heap.size + 2 := by omega
  go_wp2
  exact bodyPost_ret (v := .agg #[.iface 196 (.agg #[.int .i64 ne, .int .i64 fa]), .int .i64 (xa - xf), .int .i64 (xb - xe), .bool (decide (ti < imax (xc - xh) (xg - xd)))]) (by simp [results, Tryz.results136, go_sem, hc, imax]) rfl ⟨rfl, (((((((((bgr ((((Below.refl _ _).alloc (by first | (simp <;> omega) | omega) _).alloc (by first | (simp <;> omega) | omega) _).alloc (by first | (simp <;> omega) | omega) _) (by first | (simp <;> omega) | omega) hG).setCell (by first | (simp <;> omega) | omega) _).setCell (by first | (simp <;> omega) | omega) _).setCell (by first | (simp <;> omega) | omega) _).setCell (by first | (simp <;> omega) | omega) _).setCell (by first | (simp <;> omega) | omega) _).setCell (by first | (simp <;> omega) | omega) _).setCell (by first | (simp <;> omega) | omega) _).setCell (by first | (simp <;> omega) | omega) _)⟩
theorem see_mark (fl fh bl bh ti ne fa : Int) (th sv : Value) (plo phi : Int) (xa xb xc xd xe xf xg xh xz : Int) (w : World) (ha : inPlate xa) (hb : inPlate xb) (hc : inPlate xc) (hd : inPlate xd) (he : inPlate xe) (hf : inPlate xf) (hg : inPlate xg) (hh : inPlate xh) (hz : (xz != 0) = true) :
    Calls Tryz.prog 136 #[.agg #[.int .i64 fl, .int .i64 fh, .int .i64 bl, .int .i64 bh, .int .i64 ti, .int .i64 ne, .int .i64 fa, th, sv, .int .i64 plo, .int .i64 phi], .agg #[.int .i64 xa, .int .i64 xb, .int .i64 xc, .int .i64 xd, .int .i64 xe, .int .i64 xf, .int .i64 xg, .int .i64 xh, .int .i64 xz]] w fun e w' => e = .returned (.agg #[.iface 197 (.int .i64 xz), .int .i64 (xa - xf), .int .i64 (xb - xe), .bool (decide (ti < imax (xc - xh) (xg - xd)))]) ∧ Below w.heap.size w w' := by
  obtain ⟨a0, a1⟩ := ha
  obtain ⟨b0, b1⟩ := hb
  obtain ⟨c0, c1⟩ := hc
  obtain ⟨d0, d1⟩ := hd
  obtain ⟨e0, e1⟩ := he
  obtain ⟨f0, f1⟩ := hf
  obtain ⟨g0, g1⟩ := hg
  obtain ⟨h0, h1⟩ := hh
  have hmx : ∀ (x y : Int), (if x < y then y else x) = imax x y := fun _ _ => rfl
  go_enter Tryz.func136, Tryz.ntmps136
  go_wp2
  refine region2 52 ?_ ?_ ?_
  · kernel_rfl
  · kernel_rfl
  simp only [List.take_succ_cons, List.take_zero, List.drop_succ_cons, List.drop_zero]
  apply ceq (D := [(2, none)]) rfl (by kernel_rfl)
  · intro ρ W ⟨p1,p2,p3⟩ hG hF K hK; (try simp [FD] at hF); have ⟨hc, hf, hz⟩ := bcell hG; go_simp; exact hK _ gv
  apply ceq (D := [(6, some 0)]) rfl (by kernel_rfl)
  · intro ρ W ⟨p1,p2,p3⟩ hG hF K hK; (try simp [FD] at hF); have ⟨hc, hf, hz⟩ := bcell hG; go_simp; exact hK _ gv
  apply ceq (D := [(7, some 0)]) rfl (by kernel_rfl)
  · intro ρ W ⟨p1,p2,p3⟩ hG hF K hK; (try simp [FD] at hF); have ⟨hc, hf, hz⟩ := bcell hG; go_simp; exact hK _ gv
  apply ceq (D := [(2, none)]) rfl (by kernel_rfl)
  · intro ρ W ⟨p1,p2,p3⟩ hG hF K hK; (try simp [FD] at hF); have ⟨hc, hf, hz⟩ := bcell hG; go_simp; exact hK _ gv
  apply ceq (D := [(9, some 0)]) rfl (by kernel_rfl)
  · intro ρ W ⟨p1,p2,p3⟩ hG hF K hK; (try simp [FD] at hF); have ⟨hc, hf, hz⟩ := bcell hG; go_simp; exact hK _ gv
  apply ceq (D := [(10, some 0)]) rfl (by kernel_rfl)
  · intro ρ W ⟨p1,p2,p3⟩ hG hF K hK; (try simp [FD] at hF); have ⟨hc, hf, hz⟩ := bcell hG; go_simp; exact hK _ gv
  apply ceq (D := [(8, some 3), (11, some 0)]) rfl (by kernel_rfl)
  · intro ρ W ⟨p1,p2,p3⟩ hG hF K hK; (try simp [FD] at hF); have ⟨hc, hf, hz⟩ := bcell hG; go_simp; exact hK _ gv
  apply ceq (D := [(12, some 0)]) rfl (by kernel_rfl)
  · intro ρ W ⟨p1,p2,p3⟩ hG hF K hK; (try simp [FD] at hF); have ⟨hc, hf, hz⟩ := bcell hG; go_simp; exact hK _ gv
  apply ceq (D := [(3, none)]) rfl (by kernel_rfl)
  · intro ρ W ⟨p1,p2,p3⟩ hG hF K hK; (try simp [FD] at hF); have ⟨hc, hf, hz⟩ := bcell hG; go_simp; exact hK _ gv
  apply ceq (D := [(14, some 0)]) rfl (by kernel_rfl)
  · intro ρ W ⟨p1,p2,p3⟩ hG hF K hK; (try simp [FD] at hF); have ⟨hc, hf, hz⟩ := bcell hG; go_simp; exact hK _ gv
  apply ceq (D := [(15, some 0)]) rfl (by kernel_rfl)
  · intro ρ W ⟨p1,p2,p3⟩ hG hF K hK; (try simp [FD] at hF); have ⟨hc, hf, hz⟩ := bcell hG; go_simp; exact hK _ gv
  apply ceq (D := [(16, some 0)]) rfl (by kernel_rfl)
  · intro ρ W ⟨p1,p2,p3⟩ hG hF K hK; (try simp [FD] at hF); have ⟨hc, hf, hz⟩ := bcell hG; go_simp; exact hK _ gv
  apply ceq (D := [(3, none)]) rfl (by kernel_rfl)
  · intro ρ W ⟨p1,p2,p3⟩ hG hF K hK; (try simp [FD] at hF); have ⟨hc, hf, hz⟩ := bcell hG; go_simp; exact hK _ gv
  apply ceq (D := [(18, some 0)]) rfl (by kernel_rfl)
  · intro ρ W ⟨p1,p2,p3⟩ hG hF K hK; (try simp [FD] at hF); have ⟨hc, hf, hz⟩ := bcell hG; go_simp; exact hK _ gv
  apply ceq (D := [(19, some 0)]) rfl (by kernel_rfl)
  · intro ρ W ⟨p1,p2,p3⟩ hG hF K hK; (try simp [FD] at hF); have ⟨hc, hf, hz⟩ := bcell hG; go_simp; exact hK _ gv
  apply ceq (D := [(20, some 0)]) rfl (by kernel_rfl)
  · intro ρ W ⟨p1,p2,p3⟩ hG hF K hK; (try simp [FD] at hF); have ⟨hc, hf, hz⟩ := bcell hG; go_simp; exact hK _ gv
  apply ceq (D := [(17, some 4), (21, some 0)]) rfl (by kernel_rfl)
  · intro ρ W ⟨p1,p2,p3⟩ hG hF K hK; (try simp [FD] at hF); have ⟨hc, hf, hz⟩ := bcell hG; go_simp; exact hK _ gv
  apply ceq (D := [(3, none)]) rfl (by kernel_rfl)
  · intro ρ W ⟨p1,p2,p3⟩ hG hF K hK; (try simp [FD] at hF); have ⟨hc, hf, hz⟩ := bcell hG; go_simp; exact hK _ gv
  apply ceq (D := [(23, some 0)]) rfl (by kernel_rfl)
  · intro ρ W ⟨p1,p2,p3⟩ hG hF K hK; (try simp [FD] at hF); have ⟨hc, hf, hz⟩ := bcell hG; go_simp; exact hK _ gv
  apply ceq (D := [(24, some 0)]) rfl (by kernel_rfl)
  · intro ρ W ⟨p1,p2,p3⟩ hG hF K hK; (try simp [FD] at hF); have ⟨hc, hf, hz⟩ := bcell hG; go_simp; exact hK _ gv
  apply ceq (D := [(25, some 0)]) rfl (by kernel_rfl)
  · intro ρ W ⟨p1,p2,p3⟩ hG hF K hK; (try simp [FD] at hF); have ⟨hc, hf, hz⟩ := bcell hG; go_simp; exact hK _ gv
  apply ceq (D := [(3, none)]) rfl (by kernel_rfl)
  · intro ρ W ⟨p1,p2,p3⟩ hG hF K hK; (try simp [FD] at hF); have ⟨hc, hf, hz⟩ := bcell hG; go_simp; exact hK _ gv
  apply ceq (D := [(27, some 0)]) rfl (by kernel_rfl)
  · intro ρ W ⟨p1,p2,p3⟩ hG hF K hK; (try simp [FD] at hF); have ⟨hc, hf, hz⟩ := bcell hG; go_simp; exact hK _ gv
  apply ceq (D := [(28, some 0)]) rfl (by kernel_rfl)
  · intro ρ W ⟨p1,p2,p3⟩ hG hF K hK; (try simp [FD] at hF); have ⟨hc, hf, hz⟩ := bcell hG; go_simp; exact hK _ gv
  apply ceq (D := [(29, some 0)]) rfl (by kernel_rfl)
  · intro ρ W ⟨p1,p2,p3⟩ hG hF K hK; (try simp [FD] at hF); have ⟨hc, hf, hz⟩ := bcell hG; go_simp; exact hK _ gv
  apply ceq (D := [(26, some 4), (30, some 0)]) rfl (by kernel_rfl)
  · intro ρ W ⟨p1,p2,p3⟩ hG hF K hK; (try simp [FD] at hF); have ⟨hc, hf, hz⟩ := bcell hG; go_simp; exact hK _ gv
  apply ceq (D := [(22, some 9), (31, some 0)]) rfl (by kernel_rfl)
  · intro ρ W ⟨p1,p2,p3⟩ hG hF K hK; (try simp [FD] at hF); have ⟨hc, hf, hz⟩ := bcell hG; go_simp; exact hK _ (gc (span_any _ _ _))
  apply ceq (D := [(3, none)]) rfl (by kernel_rfl)
  · intro ρ W ⟨p1,p2,p3⟩ hG hF K hK; (try simp [FD] at hF); have ⟨hc, hf, hz⟩ := bcell hG; go_simp; exact hK _ gv
  apply ceq (D := [(33, some 0)]) rfl (by kernel_rfl)
  · intro ρ W ⟨p1,p2,p3⟩ hG hF K hK; (try simp [FD] at hF); have ⟨hc, hf, hz⟩ := bcell hG; go_simp; exact hK _ gv
  apply ceq (D := [(34, some 0)]) rfl (by kernel_rfl)
  · intro ρ W ⟨p1,p2,p3⟩ hG hF K hK; (try simp [FD] at hF); have ⟨hc, hf, hz⟩ := bcell hG; go_simp; exact hK _ gv
  apply ceq (D := [(35, some 0)]) rfl (by kernel_rfl)
  · intro ρ W ⟨p1,p2,p3⟩ hG hF K hK; (try simp [FD] at hF); have ⟨hc, hf, hz⟩ := bcell hG; go_simp; exact hK _ gv
  apply ceq (D := [(3, none)]) rfl (by kernel_rfl)
  · intro ρ W ⟨p1,p2,p3⟩ hG hF K hK; (try simp [FD] at hF); have ⟨hc, hf, hz⟩ := bcell hG; go_simp; exact hK _ gv
  apply ceq (D := [(37, some 0)]) rfl (by kernel_rfl)
  · intro ρ W ⟨p1,p2,p3⟩ hG hF K hK; (try simp [FD] at hF); have ⟨hc, hf, hz⟩ := bcell hG; go_simp; exact hK _ gv
  apply ceq (D := [(38, some 0)]) rfl (by kernel_rfl)
  · intro ρ W ⟨p1,p2,p3⟩ hG hF K hK; (try simp [FD] at hF); have ⟨hc, hf, hz⟩ := bcell hG; go_simp; exact hK _ gv
  apply ceq (D := [(39, some 0)]) rfl (by kernel_rfl)
  · intro ρ W ⟨p1,p2,p3⟩ hG hF K hK; (try simp [FD] at hF); have ⟨hc, hf, hz⟩ := bcell hG; go_simp; exact hK _ gv
  apply ceq (D := [(36, some 4), (40, some 0)]) rfl (by kernel_rfl)
  · intro ρ W ⟨p1,p2,p3⟩ hG hF K hK; (try simp [FD] at hF); have ⟨hc, hf, hz⟩ := bcell hG; go_simp; exact hK _ gv
  apply ceq (D := [(3, none)]) rfl (by kernel_rfl)
  · intro ρ W ⟨p1,p2,p3⟩ hG hF K hK; (try simp [FD] at hF); have ⟨hc, hf, hz⟩ := bcell hG; go_simp; exact hK _ gv
  apply ceq (D := [(42, some 0)]) rfl (by kernel_rfl)
  · intro ρ W ⟨p1,p2,p3⟩ hG hF K hK; (try simp [FD] at hF); have ⟨hc, hf, hz⟩ := bcell hG; go_simp; exact hK _ gv
  apply ceq (D := [(43, some 0)]) rfl (by kernel_rfl)
  · intro ρ W ⟨p1,p2,p3⟩ hG hF K hK; (try simp [FD] at hF); have ⟨hc, hf, hz⟩ := bcell hG; go_simp; exact hK _ gv
  apply ceq (D := [(44, some 0)]) rfl (by kernel_rfl)
  · intro ρ W ⟨p1,p2,p3⟩ hG hF K hK; (try simp [FD] at hF); have ⟨hc, hf, hz⟩ := bcell hG; go_simp; exact hK _ gv
  apply ceq (D := [(3, none)]) rfl (by kernel_rfl)
  · intro ρ W ⟨p1,p2,p3⟩ hG hF K hK; (try simp [FD] at hF); have ⟨hc, hf, hz⟩ := bcell hG; go_simp; exact hK _ gv
  apply ceq (D := [(46, some 0)]) rfl (by kernel_rfl)
  · intro ρ W ⟨p1,p2,p3⟩ hG hF K hK; (try simp [FD] at hF); have ⟨hc, hf, hz⟩ := bcell hG; go_simp; exact hK _ gv
  apply ceq (D := [(47, some 0)]) rfl (by kernel_rfl)
  · intro ρ W ⟨p1,p2,p3⟩ hG hF K hK; (try simp [FD] at hF); have ⟨hc, hf, hz⟩ := bcell hG; go_simp; exact hK _ gv
  apply ceq (D := [(48, some 0)]) rfl (by kernel_rfl)
  · intro ρ W ⟨p1,p2,p3⟩ hG hF K hK; (try simp [FD] at hF); have ⟨hc, hf, hz⟩ := bcell hG; go_simp; exact hK _ gv
  apply ceq (D := [(45, some 4), (49, some 0)]) rfl (by kernel_rfl)
  · intro ρ W ⟨p1,p2,p3⟩ hG hF K hK; (try simp [FD] at hF); have ⟨hc, hf, hz⟩ := bcell hG; go_simp; exact hK _ gv
  apply ceq (D := [(41, some 9), (50, some 0)]) rfl (by kernel_rfl)
  · intro ρ W ⟨p1,p2,p3⟩ hG hF K hK; (try simp [FD] at hF); have ⟨hc, hf, hz⟩ := bcell hG; go_simp; exact hK _ gv
  apply ceq (D := [(2, none)]) rfl (by kernel_rfl)
  · intro ρ W ⟨p1,p2,p3⟩ hG hF K hK; (try simp [FD] at hF); have ⟨hc, hf, hz⟩ := bcell hG; go_simp; exact hK _ gv
  apply ceq (D := [(52, some 0)]) rfl (by kernel_rfl)
  · intro ρ W ⟨p1,p2,p3⟩ hG hF K hK; (try simp [FD] at hF); have ⟨hc, hf, hz⟩ := bcell hG; go_simp; exact hK _ gv
  apply ceq (D := [(53, some 0)]) rfl (by kernel_rfl)
  · intro ρ W ⟨p1,p2,p3⟩ hG hF K hK; (try simp [FD] at hF); have ⟨hc, hf, hz⟩ := bcell hG; go_simp; exact hK _ gv
  apply ceq (D := [(51, some 3), (54, some 0)]) rfl (by kernel_rfl)
  · intro ρ W ⟨p1,p2,p3⟩ hG hF K hK; (try simp [FD] at hF); have ⟨hc, hf, hz⟩ := bcell hG; go_simp; exact hK _ gv
  apply ceq (D := [(13, some 42), (32, some 23), (55, some 0)]) rfl (by kernel_rfl)
  · intro ρ W ⟨p1,p2,p3⟩ hG hF K hK; (try simp [FD] at hF); have ⟨hc, hf, hz⟩ := bcell hG; go_simp; exact hK _ gv
  refine cny (V := FreshAt (w.heap.size + 3) [.nilIface, .int .i64 0, .int .i64 0, .bool false] 111) (D := []) rfl (by kernel_rfl) (FreshAt.lasts _ _ _) ?_ ?_
  · intro ρ W ⟨p1,p2,p3⟩ hG hF K hK; (try simp [FD] at hF); have ⟨hc, hf, hz⟩ := bcell hG; have hsz : w.heap.size + 3 ≤ W.heap.size := (by have := Below.size hG; simp at this; omega); go_simp; exact hK _ (⟨FreshAt.new hsz _ _, Gr.alloc _ _⟩)
  refine cdn ?_
  intro vs W hG hV
  obtain ⟨e51, e50, -⟩ := hV
  simp only [Nat.reduceSub] at e50 e51
  set_option maxRecDepth 100000 in
  simp only [lay, Act.put, List.getElem?_toArray, List.getElem?_cons_succ, List.getElem?_cons_zero, Option.bind_some, List.setIfInBounds_toArray, List.set_cons_succ, List.set_cons_zero]
  generalize vs 0 = v0, vs 1 = v1, vs 2 = v2, vs 3 = v3, vs 4 = v4, vs 5 = v5, vs 6 = v6, vs 7 = v7, vs 8 = v8, vs 9 = v9, vs 10 = v10, vs 11 = v11, vs 12 = v12, vs 13 = v13, vs 14 = v14, vs 15 = v15, vs 16 = v16, vs 17 = v17, vs 18 = v18, vs 19 = v19, vs 20 = v20, vs 21 = v21, vs 22 = v22, vs 23 = v23, vs 24 = v24, vs 25 = v25, vs 26 = v26, vs 27 = v27, vs 28 = v28, vs 29 = v29, vs 30 = v30, vs 31 = v31, vs 32 = v32, vs 33 = v33, vs 34 = v34, vs 35 = v35, vs 36 = v36, vs 37 = v37, vs 38 = v38, vs 39 = v39, vs 40 = v40, vs 41 = v41, vs 42 = v42, vs 43 = v43, vs 44 = v44, vs 45 = v45, vs 46 = v46, vs 47 = v47, vs 48 = v48, vs 49 = v49
  generalize vs 50 = v50 at *
  generalize vs 51 = v51 at *
  subst e50
  obtain ⟨hc, hf, hz⟩ := bcell hG
  obtain ⟨b5, rfl, hN, hbox⟩ := e51
  have x0 := hbox.cell (i := 0) rfl
  have x1 := hbox.cell (i := 1) rfl
  have x2 := hbox.cell (i := 2) rfl
  have x3 := hbox.cell (i := 3) rfl
  have y0 := hbox.free 0
  have y1 := hbox.free 1
  have y2 := hbox.free 2
  have y3 := hbox.free 3
  clear hbox
  have n0 : w.heap.size ≠ b5 := by omega
  have n1 : w.heap.size + 1 ≠ b5 := by omega
  have n2 : w.heap.size + 2 ≠ b5 := by omega
  have m0 : b5 ≠ w.heap.size := by omega
  have m1 : b5 ≠ w.heap.size + 1 := by omega
  have m2 : b5 ≠ w.heap.size + 2 := by omega
  go_wp2
  exact bodyPost_ret (v := .agg #[.iface 197 (.int .i64 xz), .int .i64 (xa - xf), .int .i64 (xb - xe), .bool (decide (ti < imax (xc - xh) (xg - xd)))]) (by simp [results, Tryz.results136, go_sem, hc, imax]) rfl ⟨rfl, ((((((((((bgr ((((Below.refl _ _).alloc (by first | (simp <;> omega) | omega) _).alloc (by first | (simp <;> omega) | omega) _).alloc (by first | (simp <;> omega) | omega) _) (by first | (simp <;> omega) | omega) hG).setCell (by first | (simp <;> omega) | omega) _).setCell (by first | (simp <;> omega) | omega) _).setCell (by first | (simp <;> omega) | omega) _).setCell (by first | (simp <;> omega) | omega) _).setCell (by first | (simp <;> omega) | omega) _).setCell (by first | (simp <;> omega) | omega) _).setCell (by first | (simp <;> omega) | omega) _).setCell (by first | (simp <;> omega) | omega) _).setCell (by first | (simp <;> omega) | omega) _)⟩
theorem see_any (fl fh bl bh ti ne fa : Int) (th sv : Value) (plo phi : Int) (t : Th) (w : World) (h : t.ok) : Calls Tryz.prog 136 #[.agg #[.int .i64 fl, .int .i64 fh, .int .i64 bl, .int .i64 bh, .int .i64 ti, .int .i64 ne, .int .i64 fa, th, sv, .int .i64 plo, .int .i64 phi], t.val] w fun e w' => e = .returned (t.see ti ne fa).val ∧ Below w.heap.size w w' := by
  obtain ⟨a, b, c, d, e, f, g, k, z⟩ := t
  obtain ⟨h0, h1, h2, h3, h4, h5, h6, h7⟩ := h
  by_cases hz : z = 0
  · have hv : Sg.val (Th.see ti ne fa ⟨a, b, c, d, e, f, g, k, z⟩) = .agg #[.iface 196 (.agg #[.int .i64 ne, .int .i64 fa]), .int .i64 (a - f), .int .i64 (b - e), .bool (decide (ti < imax (c - k) (g - d)))] := by
      simp [Sg.val, Th.see, Th.wit, hz, Wit.val]
    rw [hv]
    exact see_far fl fh bl bh ti ne fa th sv plo phi a b c d e f g k z w h0 h1 h2 h3 h4 h5 h6 h7 (by simpa using hz)
  · have hv : Sg.val (Th.see ti ne fa ⟨a, b, c, d, e, f, g, k, z⟩) = .agg #[.iface 197 (.int .i64 z), .int .i64 (a - f), .int .i64 (b - e), .bool (decide (ti < imax (c - k) (g - d)))] := by
      simp [Sg.val, Th.see, Th.wit, hz, Wit.val]
    rw [hv]
    exact see_mark fl fh bl bh ti ne fa th sv plo phi a b c d e f g k z w h0 h1 h2 h3 h4 h5 h6 h7 (by simpa using hz)
end Go.Proofs.YtcngaohfemdfjaaGreat
