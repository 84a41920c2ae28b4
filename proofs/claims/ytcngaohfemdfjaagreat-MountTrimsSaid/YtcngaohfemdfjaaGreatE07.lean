import Derived.Test.YtcngaohfemdfjaaGreatE05
set_option linter.unusedVariables false
set_option linter.unusedSimpArgs false
set_option maxRecDepth 100000
set_option maxHeartbeats 60000000
namespace Go.Proofs.YtcngaohfemdfjaaGreat
open Go.RowKit
theorem xlb {P : Program} {vs : List Value} {T ty : TypeId} {x : Operand} {g n : Nat} {o : Oper} {ρ : Operand → Value} {W : World} (hr : rowOf P ty n = true) (hn : vs.length = n) (hg : Box W g vs T)
    (ho : o.op = .load ty x) (hx : ρ x = .pointer (some ⟨g, 0, none⟩)) : (execOp ρ o).run P W = .ok (.value (.agg vs.toArray)) W := by
  obtain ⟨d, hu, hd, hi⟩ := rowOf.parts hr
  unfold execOp
  simp only [ho, hx, Instr.loadAt, Instr.sureAddr, Sem.run_bind, Sem.run_pure, Result.andThen_ok, run_loadVar_row W g T ty vs.toArray (0, 0) d hg hu (by cases d <;> simp_all [rowD]) (by simpa [hn] using hi)]
structure Vw where
  la : Int
  lb : Int
  ra : Int
  rb : Int
  sa : Int
  sb : Int
def Vw.vals (x : Vw) : List Value := [.int .i64 x.la, .int .i64 x.lb, .int .i64 x.ra, .int .i64 x.rb, .int .i64 x.sa, .int .i64 x.sb]
structure Vw.ok (x : Vw) : Prop where
  la : -8000 ≤ x.la ∧ x.la ≤ 8000
  lb : -8000 ≤ x.lb ∧ x.lb ≤ 8000
  ra : -8000 ≤ x.ra ∧ x.ra ≤ 8000
  rb : -8000 ≤ x.rb ∧ x.rb ≤ 8000
  sa : -8000 ≤ x.sa ∧ x.sa ≤ 8000
  sb : -8000 ≤ x.sb ∧ x.sb ≤ 8000
structure Tm.ok (t : Tm) : Prop where
  half : 0 ≤ t.k.half ∧ t.k.half ≤ 4000
  step : 0 ≤ t.k.step ∧ t.k.step ≤ 100
  elo : 0 ≤ t.k.elo ∧ t.k.elo ≤ 10000
  ehi : 0 ≤ t.k.ehi ∧ t.k.ehi ≤ 10000
  prism : 0 ≤ t.k.prism ∧ t.k.prism ≤ 10000
  squeeze : 0 ≤ t.k.squeeze ∧ t.k.squeeze ≤ 10000
  front : 0 ≤ t.k.front ∧ t.k.front ≤ 10000
  deep : 0 ≤ t.k.deep ∧ t.k.deep ≤ 10000
  a : 0 ≤ t.u.a ∧ t.u.a ≤ 40
  b : 0 ≤ t.u.b ∧ t.u.b ≤ 40
  c : 0 ≤ t.u.c ∧ t.u.c ≤ 40
  d : 0 ≤ t.u.d ∧ t.u.d ≤ 40
theorem step_mul {s x : Int} (h : 0 ≤ s ∧ s ≤ 100) (hx : -80 ≤ x ∧ x ≤ 80) : -8000 ≤ s * x ∧ s * x ≤ 8000 := by
  obtain ⟨h0, h1⟩ := h
  obtain ⟨x0, x1⟩ := hx
  rcases Int.le_total 0 x with p | p
  · have a1 : s * x ≤ 100 * x := Int.mul_le_mul_of_nonneg_right h1 p
    have a2 : 0 ≤ s * x := Int.mul_nonneg h0 p
    omega
  · have a1 : 100 * x ≤ s * x := Int.mul_le_mul_of_nonpos_right h1 p
    have a2 : s * x ≤ 0 := Int.mul_nonpos_of_nonneg_of_nonpos h0 p
    omega
def Tm.win (t : Tm) : Int := t.k.step * (t.u.a - t.u.c)
theorem Tm.ok.win {t : Tm} (h : t.ok) : -8000 ≤ t.win ∧ t.win ≤ 8000 := by
  have := h.a; have := h.c
  exact step_mul h.step (by omega)
theorem Tm.ok.bc {t : Tm} (h : t.ok) : -8000 ≤ t.k.step * (t.u.b + t.u.c) ∧ t.k.step * (t.u.b + t.u.c) ≤ 8000 := by
  have := h.b; have := h.c
  exact step_mul h.step (by omega)
theorem Tm.ok.dist {t : Tm} (h : t.ok) {s : Int} (hs : -8000 ≤ s ∧ s ≤ 8000) : -40000 ≤ t.dist s ∧ t.dist s ≤ 40000 := by
  have := h.bc; have := h.half
  unfold Tm.dist
  omega
theorem window_ok (t : Tm) (h : t.ok) (w : World) : Calls Tryz.prog 147 #[.agg t.cs.toArray] w fun e w' => e = .returned (.int .i64 t.win) ∧ Below w.heap.size w w' := by
  have := h.a; have := h.c; have h1 := h.win
  unfold Tm.win at *
  exact window_any t w (by omega) (by omega)
theorem distance_ok (t : Tm) (h : t.ok) (s : Int) (hs : -8000 ≤ s ∧ s ≤ 8000) (w : World) : Calls Tryz.prog 97 #[.agg t.cs.toArray, .int .i64 s] w fun e w' => e = .returned (.int .i64 (t.dist s)) ∧ Below w.heap.size w w' := by
  have := h.b; have := h.c; have := h.half; have h1 := h.bc
  exact distance_any' t s w (by omega) (by omega) (by omega) (by omega)
theorem leftPrint_ok (t : Tm) (h : t.ok) (w : World) : Calls Tryz.prog 173 #[.agg t.cs.toArray] w fun e w' => e = .returned (.agg #[.int .i64 (-t.k.half + t.k.step * t.u.a), .int .i64 (t.k.half - t.k.step * t.u.b)]) ∧ Below w.heap.size w w' := by
  have h1 := step_mul h.step (x := t.u.a) (by have := h.a; omega)
  have h2 := step_mul h.step (x := t.u.b) (by have := h.b; omega)
  have := h.half
  exact leftPrint_any t w (by omega) (by omega) (by omega)
theorem rightPrint_ok (t : Tm) (h : t.ok) (w : World) : Calls Tryz.prog 174 #[.agg t.cs.toArray] w fun e w' => e = .returned (.agg #[.int .i64 (-t.k.half + t.k.step * t.u.c), .int .i64 (t.k.half - t.k.step * t.u.d)]) ∧ Below w.heap.size w w' := by
  have h1 := step_mul h.step (x := t.u.c) (by have := h.c; omega)
  have h2 := step_mul h.step (x := t.u.d) (by have := h.d; omega)
  have := h.half
  exact rightPrint_any t w (by omega) (by omega) (by omega)
theorem distances_ok (t : Tm) (h : t.ok) (w : World) : Calls Tryz.prog 128 #[.agg t.cs.toArray] w fun e w' => e = .returned (.agg #[.int .i64 (t.k.ehi - t.k.squeeze), .int .i64 (t.k.elo + t.k.prism)]) ∧ Below w.heap.size w w' := by
  have := h.elo; have := h.ehi; have := h.prism; have := h.squeeze
  exact distances_any' t w (by omega) (by omega) (by omega) (by omega)
theorem shifts_ok (t : Tm) (h : t.ok) (w : World) :
    Calls Tryz.prog 129 #[.agg t.cs.toArray] w fun e w' => e = .returned (.agg #[.int .i64 (t.win - t.k.deep), .int .i64 (t.win + t.k.front)]) ∧ Below w.heap.size w w' := by
  have HW := Lib.hid (fun W => window_ok t h W)
  obtain ⟨w0, w1⟩ := h.win
  obtain ⟨f0, f1⟩ := h.front
  obtain ⟨d0, d1⟩ := h.deep
  clear h
  have HB := Lib.hid (show Box ((w.alloc (Obj.cells t.cs.toArray 83)).alloc (Obj.cells #[.int .i64 0, .int .i64 0] 23)) w.heap.size t.cs 83 from (Box.fresh w t.cs 83).grow (Gr.alloc _ _))
  have e15 : ∀ h : 15 < t.cs.length, t.cs[15] = .int .i64 t.k.front := fun _ => rfl
  have e16 : ∀ h : 16 < t.cs.length, t.cs[16] = .int .i64 t.k.deep := fun _ => rfl
  have hl : t.cs.length = 22 := rfl
  go_enter Tryz.func129, Tryz.ntmps129
  go_wp2
  refine region2 15 ?_ ?_ ?_
  · kernel_rfl
  · kernel_rfl
  simp only [List.take_succ_cons, List.take_zero, List.drop_succ_cons, List.drop_zero]
  apply ceq (D := [(1, none)]) rfl (by kernel_rfl)
  · intro ρ W ⟨p1,p2,p3⟩ hG hF K hK; (try simp [FD] at hF); rw [xlb row83 t.cs_len (HB.out.grow (Gr.tr (Gr.drew _) hG)) rfl hF]; exact hK _ gv
  apply ceq (D := [(3, some 0)]) rfl (by kernel_rfl)
  · intro ρ W ⟨p1,p2,p3⟩ hG hF K hK; (try simp [FD] at hF); have ⟨hc, hf, hz⟩ := bdr hG; go_simp; exact hK _ (gc (HW.out _))
  apply ceq (D := [(1, none)]) rfl (by kernel_rfl)
  · intro ρ W ⟨p1,p2,p3⟩ hG hF K hK; (try simp [FD] at hF); have ⟨hc, hf, hz⟩ := bdr hG; go_simp; exact hK _ gv
  apply ceq (D := [(5, some 0)]) rfl (by kernel_rfl)
  · intro ρ W ⟨p1,p2,p3⟩ hG hF K hK; (try simp [FD] at hF); have ⟨hc, hf, hz⟩ := bdr hG; go_simp; exact hK _ gv
  apply ceq (D := [(6, some 0)]) rfl (by kernel_rfl)
  · intro ρ W ⟨p1,p2,p3⟩ hG hF K hK; (try simp [FD] at hF); have ⟨hc, hf, hz⟩ := bdr hG; go_simp; exact hK _ gv
  apply ceq (D := [(7, some 0)]) rfl (by kernel_rfl)
  · intro ρ W ⟨p1,p2,p3⟩ hG hF K hK; (try simp [FD] at hF); have ⟨hc, hf, hz⟩ := bdr hG; go_simp; exact hK _ gv
  apply ceq (D := [(4, some 4), (8, some 0)]) rfl (by kernel_rfl)
  · intro ρ W ⟨p1,p2,p3⟩ hG hF K hK; (try simp [FD] at hF); have ⟨hc, hf, hz⟩ := bdr hG; go_simp; exact hK _ gv
  apply ceq (D := [(1, none)]) rfl (by kernel_rfl)
  · intro ρ W ⟨p1,p2,p3⟩ hG hF K hK; (try simp [FD] at hF); rw [xlb row83 t.cs_len (HB.out.grow (Gr.tr (Gr.drew _) hG)) rfl hF]; exact hK _ gv
  apply ceq (D := [(10, some 0)]) rfl (by kernel_rfl)
  · intro ρ W ⟨p1,p2,p3⟩ hG hF K hK; (try simp [FD] at hF); have ⟨hc, hf, hz⟩ := bdr hG; go_simp; exact hK _ (gc (HW.out _))
  apply ceq (D := [(1, none)]) rfl (by kernel_rfl)
  · intro ρ W ⟨p1,p2,p3⟩ hG hF K hK; (try simp [FD] at hF); have ⟨hc, hf, hz⟩ := bdr hG; go_simp; exact hK _ gv
  apply ceq (D := [(12, some 0)]) rfl (by kernel_rfl)
  · intro ρ W ⟨p1,p2,p3⟩ hG hF K hK; (try simp [FD] at hF); have ⟨hc, hf, hz⟩ := bdr hG; go_simp; exact hK _ gv
  apply ceq (D := [(13, some 0)]) rfl (by kernel_rfl)
  · intro ρ W ⟨p1,p2,p3⟩ hG hF K hK; (try simp [FD] at hF); have ⟨hc, hf, hz⟩ := bdr hG; go_simp; exact hK _ gv
  apply ceq (D := [(14, some 0)]) rfl (by kernel_rfl)
  · intro ρ W ⟨p1,p2,p3⟩ hG hF K hK; (try simp [FD] at hF); have ⟨hc, hf, hz⟩ := bdr hG; go_simp; exact hK _ gv
  apply ceq (D := [(11, some 4), (15, some 0)]) rfl (by kernel_rfl)
  · intro ρ W ⟨p1,p2,p3⟩ hG hF K hK; (try simp [FD] at hF); have ⟨hc, hf, hz⟩ := bdr hG; go_simp; exact hK _ gv
  apply ceq (D := [(9, some 7), (16, some 0)]) rfl (by kernel_rfl)
  · intro ρ W ⟨p1,p2,p3⟩ hG hF K hK; (try simp [FD] at hF); have ⟨hc, hf, hz⟩ := bdr hG; go_simp; exact hK _ (gc (mspan_any _ _ _))
  refine cdn ?_
  intro vs W hG hV
  obtain ⟨e14, -⟩ := hV
  simp only [Nat.reduceSub] at e14
  simp only [lay, Act.put, List.getElem?_toArray, List.getElem?_cons_succ, List.getElem?_cons_zero, Option.bind_some, List.setIfInBounds_toArray, List.set_cons_succ, List.set_cons_zero]
  generalize vs 0 = v0, vs 1 = v1, vs 2 = v2, vs 3 = v3, vs 4 = v4, vs 5 = v5, vs 6 = v6, vs 7 = v7, vs 8 = v8, vs 9 = v9, vs 10 = v10, vs 11 = v11, vs 12 = v12, vs 13 = v13
  generalize vs 14 = v14 at *
  subst e14
  obtain ⟨hc, hf, hz⟩ := bcell hG
  go_wp2
  exact bodyPost_ret (v := .agg #[.int .i64 (t.win - t.k.deep), .int .i64 (t.win + t.k.front)]) (by simp [results, Tryz.results129, go_sem, hc]) rfl ⟨rfl, (((bgr (((Below.refl _ _).alloc (by first | (simp <;> omega) | omega) _).alloc (by first | (simp <;> omega) | omega) _) (by first | (simp <;> omega) | omega) hG).setCell (by first | (simp <;> omega) | omega) _).setCell (by first | (simp <;> omega) | omega) _)⟩
theorem tooNear_ok (t : Tm) (x : Vw) (h : t.ok) (hx : x.ok) (w : World) :
    Calls Tryz.prog 168 #[.agg #[], .agg t.cs.toArray, .agg #[.int .i64 x.la, .int .i64 x.lb, .int .i64 x.ra, .int .i64 x.rb, .int .i64 x.sa, .int .i64 x.sb]] w fun e w' => e = .returned (.bool (decide (t.dist x.sb < t.k.ehi - t.k.squeeze))) ∧ Below w.heap.size w w' := by
  have hfd0 := @fld23_0
  have hfd1 := @fld23_1
  have HD := Lib.hid (fun W => distance_ok t h x.sb hx.sb W)
  have HS := Lib.hid (fun W => distances_ok t h W)
  have hb0 : Box (((w.alloc (Obj.cells #[] 168)).alloc (Obj.cells t.cs.toArray 83)).alloc (Obj.cells #[.int .i64 x.la, .int .i64 x.lb, .int .i64 x.ra, .int .i64 x.rb, .int .i64 x.sa, .int .i64 x.sb] 127)) (w.heap.size + 1) t.cs 83 := by
    have := (Box.fresh (w.alloc (Obj.cells #[] 168)) t.cs 83).grow (Gr.alloc _ (Obj.cells #[.int .i64 x.la, .int .i64 x.lb, .int .i64 x.ra, .int .i64 x.rb, .int .i64 x.sa, .int .i64 x.sb] 127))
    simpa using this
  have HB := Lib.hid hb0
  clear hb0 h hx
  have hl : t.cs.length = 22 := rfl
  go_enter Tryz.func168, Tryz.ntmps168
  go_wp2
  refine region2 9 ?_ ?_ ?_
  · kernel_rfl
  · kernel_rfl
  simp only [List.take_succ_cons, List.take_zero, List.drop_succ_cons, List.drop_zero]
  apply ceq (D := [(4, none)]) rfl (by kernel_rfl)
  · intro ρ W ⟨p1,p2,p3⟩ hG hF K hK; (try simp [FD] at hF); rw [xlb row83 t.cs_len (HB.out.grow (Gr.tr (Gr.drew _) hG)) rfl hF]; exact hK _ gv
  apply ceq (D := [(5, none)]) rfl (by kernel_rfl)
  · intro ρ W ⟨p1,p2,p3⟩ hG hF K hK; (try simp [FD] at hF); have ⟨hc, hf, hz⟩ := bdr hG; go_simp; exact hK _ gv
  apply ceq (D := [(8, some 0)]) rfl (by kernel_rfl)
  · intro ρ W ⟨p1,p2,p3⟩ hG hF K hK; (try simp [FD] at hF); have ⟨hc, hf, hz⟩ := bdr hG; go_simp; exact hK _ gv
  apply ceq (D := [(9, some 0)]) rfl (by kernel_rfl)
  · intro ρ W ⟨p1,p2,p3⟩ hG hF K hK; (try simp [FD] at hF); have ⟨hc, hf, hz⟩ := bdr hG; go_simp; exact hK _ gv
  apply ceq (D := [(7, some 3), (10, some 0)]) rfl (by kernel_rfl)
  · intro ρ W ⟨p1,p2,p3⟩ hG hF K hK; (try simp [FD] at hF); have ⟨hc, hf, hz⟩ := bdr hG; go_simp; exact hK _ (gc (HD.out _))
  apply ceq (D := [(4, none)]) rfl (by kernel_rfl)
  · intro ρ W ⟨p1,p2,p3⟩ hG hF K hK; (try simp [FD] at hF); rw [xlb row83 t.cs_len (HB.out.grow (Gr.tr (Gr.drew _) hG)) rfl hF]; exact hK _ gv
  apply ceq (D := [(12, some 0)]) rfl (by kernel_rfl)
  · intro ρ W ⟨p1,p2,p3⟩ hG hF K hK; (try simp [FD] at hF); have ⟨hc, hf, hz⟩ := bdr hG; go_simp; exact hK _ (gc (HS.out _))
  apply ceq (D := [(13, some 0)]) rfl (by kernel_rfl)
  · intro ρ W ⟨p1,p2,p3⟩ hG hF K hK; (try simp [FD] at hF); have ⟨hc, hf, hz⟩ := bdr hG; go_simp; exact hK _ gv
  apply ceq (D := [(11, some 3), (14, some 0)]) rfl (by kernel_rfl)
  · intro ρ W ⟨p1,p2,p3⟩ hG hF K hK; (try simp [FD] at hF); have ⟨hc, hf, hz⟩ := bdr hG; go_simp; exact hK _ gv
  refine cdn ?_
  intro vs W hG hV
  obtain ⟨e8, -⟩ := hV
  simp only [Nat.reduceSub] at e8
  simp only [lay, Act.put, List.getElem?_toArray, List.getElem?_cons_succ, List.getElem?_cons_zero, Option.bind_some, List.setIfInBounds_toArray, List.set_cons_succ, List.set_cons_zero]
  generalize vs 0 = v0, vs 1 = v1, vs 2 = v2, vs 3 = v3, vs 4 = v4, vs 5 = v5, vs 6 = v6, vs 7 = v7
  generalize vs 8 = v8 at *
  subst e8
  obtain ⟨hc, hf, hz⟩ := bcell hG
  go_wp2
  go_ret
  exact ⟨rfl, (bgr ((((Below.refl _ _).alloc (by first | (simp <;> omega) | omega) _).alloc (by first | (simp <;> omega) | omega) _).alloc (by first | (simp <;> omega) | omega) _) (by first | (simp <;> omega) | omega) hG)⟩
theorem tooFar_ok (t : Tm) (x : Vw) (h : t.ok) (hx : x.ok) (w : World) :
    Calls Tryz.prog 169 #[.agg #[], .agg t.cs.toArray, .agg #[.int .i64 x.la, .int .i64 x.lb, .int .i64 x.ra, .int .i64 x.rb, .int .i64 x.sa, .int .i64 x.sb]] w fun e w' => e = .returned (.bool (decide (t.k.elo + t.k.prism < t.dist x.sa))) ∧ Below w.heap.size w w' := by
  have hfd0 := @fld23_0
  have hfd1 := @fld23_1
  have HD := Lib.hid (fun W => distance_ok t h x.sa hx.sa W)
  have HS := Lib.hid (fun W => distances_ok t h W)
  have hb0 : Box (((w.alloc (Obj.cells #[] 169)).alloc (Obj.cells t.cs.toArray 83)).alloc (Obj.cells #[.int .i64 x.la, .int .i64 x.lb, .int .i64 x.ra, .int .i64 x.rb, .int .i64 x.sa, .int .i64 x.sb] 127)) (w.heap.size + 1) t.cs 83 := by
    have := (Box.fresh (w.alloc (Obj.cells #[] 169)) t.cs 83).grow (Gr.alloc _ (Obj.cells #[.int .i64 x.la, .int .i64 x.lb, .int .i64 x.ra, .int .i64 x.rb, .int .i64 x.sa, .int .i64 x.sb] 127))
    simpa using this
  have HB := Lib.hid hb0
  clear hb0 h hx
  have hl : t.cs.length = 22 := rfl
  go_enter Tryz.func169, Tryz.ntmps169
  go_wp2
  refine region2 9 ?_ ?_ ?_
  · kernel_rfl
  · kernel_rfl
  simp only [List.take_succ_cons, List.take_zero, List.drop_succ_cons, List.drop_zero]
  apply ceq (D := [(4, none)]) rfl (by kernel_rfl)
  · intro ρ W ⟨p1,p2,p3⟩ hG hF K hK; (try simp [FD] at hF); rw [xlb row83 t.cs_len (HB.out.grow (Gr.tr (Gr.drew _) hG)) rfl hF]; exact hK _ gv
  apply ceq (D := [(5, none)]) rfl (by kernel_rfl)
  · intro ρ W ⟨p1,p2,p3⟩ hG hF K hK; (try simp [FD] at hF); have ⟨hc, hf, hz⟩ := bdr hG; go_simp; exact hK _ gv
  apply ceq (D := [(8, some 0)]) rfl (by kernel_rfl)
  · intro ρ W ⟨p1,p2,p3⟩ hG hF K hK; (try simp [FD] at hF); have ⟨hc, hf, hz⟩ := bdr hG; go_simp; exact hK _ gv
  apply ceq (D := [(9, some 0)]) rfl (by kernel_rfl)
  · intro ρ W ⟨p1,p2,p3⟩ hG hF K hK; (try simp [FD] at hF); have ⟨hc, hf, hz⟩ := bdr hG; go_simp; exact hK _ gv
  apply ceq (D := [(7, some 3), (10, some 0)]) rfl (by kernel_rfl)
  · intro ρ W ⟨p1,p2,p3⟩ hG hF K hK; (try simp [FD] at hF); have ⟨hc, hf, hz⟩ := bdr hG; go_simp; exact hK _ (gc (HD.out _))
  apply ceq (D := [(4, none)]) rfl (by kernel_rfl)
  · intro ρ W ⟨p1,p2,p3⟩ hG hF K hK; (try simp [FD] at hF); rw [xlb row83 t.cs_len (HB.out.grow (Gr.tr (Gr.drew _) hG)) rfl hF]; exact hK _ gv
  apply ceq (D := [(12, some 0)]) rfl (by kernel_rfl)
  · intro ρ W ⟨p1,p2,p3⟩ hG hF K hK; (try simp [FD] at hF); have ⟨hc, hf, hz⟩ := bdr hG; go_simp; exact hK _ (gc (HS.out _))
  apply ceq (D := [(13, some 0)]) rfl (by kernel_rfl)
  · intro ρ W ⟨p1,p2,p3⟩ hG hF K hK; (try simp [FD] at hF); have ⟨hc, hf, hz⟩ := bdr hG; go_simp; exact hK _ gv
  apply ceq (D := [(11, some 3), (14, some 0)]) rfl (by kernel_rfl)
  · intro ρ W ⟨p1,p2,p3⟩ hG hF K hK; (try simp [FD] at hF); have ⟨hc, hf, hz⟩ := bdr hG; go_simp; exact hK _ gv
  refine cdn ?_
  intro vs W hG hV
  obtain ⟨e8, -⟩ := hV
  simp only [Nat.reduceSub] at e8
  simp only [lay, Act.put, List.getElem?_toArray, List.getElem?_cons_succ, List.getElem?_cons_zero, Option.bind_some, List.setIfInBounds_toArray, List.set_cons_succ, List.set_cons_zero]
  generalize vs 0 = v0, vs 1 = v1, vs 2 = v2, vs 3 = v3, vs 4 = v4, vs 5 = v5, vs 6 = v6, vs 7 = v7
  generalize vs 8 = v8 at *
  subst e8
  obtain ⟨hc, hf, hz⟩ := bcell hG
  go_wp2
  go_ret
  exact ⟨rfl, (bgr ((((Below.refl _ _).alloc (by first | (simp <;> omega) | omega) _).alloc (by first | (simp <;> omega) | omega) _).alloc (by first | (simp <;> omega) | omega) _) (by first | (simp <;> omega) | omega) hG)⟩
theorem inFront_ok (t : Tm) (x : Vw) (h : t.ok) (hx : x.ok) (w : World) :
    Calls Tryz.prog 170 #[.agg #[], .agg t.cs.toArray, .agg #[.int .i64 x.la, .int .i64 x.lb, .int .i64 x.ra, .int .i64 x.rb, .int .i64 x.sa, .int .i64 x.sb]] w fun e w' => e = .returned (.bool (decide (t.win + t.k.front < x.sb))) ∧ Below w.heap.size w w' := by
  have hfd0 := @fld23_0
  have hfd1 := @fld23_1
  have HS := Lib.hid (fun W => shifts_ok t h W)
  have hb0 : Box (((w.alloc (Obj.cells #[] 170)).alloc (Obj.cells t.cs.toArray 83)).alloc (Obj.cells #[.int .i64 x.la, .int .i64 x.lb, .int .i64 x.ra, .int .i64 x.rb, .int .i64 x.sa, .int .i64 x.sb] 127)) (w.heap.size + 1) t.cs 83 := by
    have := (Box.fresh (w.alloc (Obj.cells #[] 170)) t.cs 83).grow (Gr.alloc _ (Obj.cells #[.int .i64 x.la, .int .i64 x.lb, .int .i64 x.ra, .int .i64 x.rb, .int .i64 x.sa, .int .i64 x.sb] 127))
    simpa using this
  have HB := Lib.hid hb0
  clear hb0 h hx
  have hl : t.cs.length = 22 := rfl
  go_enter Tryz.func170, Tryz.ntmps170
  go_wp2
  refine region2 7 ?_ ?_ ?_
  · kernel_rfl
  · kernel_rfl
  simp only [List.take_succ_cons, List.take_zero, List.drop_succ_cons, List.drop_zero]
  apply ceq (D := [(5, none)]) rfl (by kernel_rfl)
  · intro ρ W ⟨p1,p2,p3⟩ hG hF K hK; (try simp [FD] at hF); have ⟨hc, hf, hz⟩ := bdr hG; go_simp; exact hK _ gv
  apply ceq (D := [(7, some 0)]) rfl (by kernel_rfl)
  · intro ρ W ⟨p1,p2,p3⟩ hG hF K hK; (try simp [FD] at hF); have ⟨hc, hf, hz⟩ := bdr hG; go_simp; exact hK _ gv
  apply ceq (D := [(8, some 0)]) rfl (by kernel_rfl)
  · intro ρ W ⟨p1,p2,p3⟩ hG hF K hK; (try simp [FD] at hF); have ⟨hc, hf, hz⟩ := bdr hG; go_simp; exact hK _ gv
  apply ceq (D := [(4, none)]) rfl (by kernel_rfl)
  · intro ρ W ⟨p1,p2,p3⟩ hG hF K hK; (try simp [FD] at hF); rw [xlb row83 t.cs_len (HB.out.grow (Gr.tr (Gr.drew _) hG)) rfl hF]; exact hK _ gv
  apply ceq (D := [(10, some 0)]) rfl (by kernel_rfl)
  · intro ρ W ⟨p1,p2,p3⟩ hG hF K hK; (try simp [FD] at hF); have ⟨hc, hf, hz⟩ := bdr hG; go_simp; exact hK _ (gc (HS.out _))
  apply ceq (D := [(11, some 0)]) rfl (by kernel_rfl)
  · intro ρ W ⟨p1,p2,p3⟩ hG hF K hK; (try simp [FD] at hF); have ⟨hc, hf, hz⟩ := bdr hG; go_simp; exact hK _ gv
  apply ceq (D := [(9, some 3), (12, some 0)]) rfl (by kernel_rfl)
  · intro ρ W ⟨p1,p2,p3⟩ hG hF K hK; (try simp [FD] at hF); have ⟨hc, hf, hz⟩ := bdr hG; go_simp; exact hK _ gv
  refine cdn ?_
  intro vs W hG hV
  obtain ⟨e6, -⟩ := hV
  simp only [Nat.reduceSub] at e6
  simp only [lay, Act.put, List.getElem?_toArray, List.getElem?_cons_succ, List.getElem?_cons_zero, Option.bind_some, List.setIfInBounds_toArray, List.set_cons_succ, List.set_cons_zero]
  generalize vs 0 = v0, vs 1 = v1, vs 2 = v2, vs 3 = v3, vs 4 = v4, vs 5 = v5
  generalize vs 6 = v6 at *
  subst e6
  obtain ⟨hc, hf, hz⟩ := bcell hG
  go_wp2
  go_ret
  exact ⟨rfl, (bgr ((((Below.refl _ _).alloc (by first | (simp <;> omega) | omega) _).alloc (by first | (simp <;> omega) | omega) _).alloc (by first | (simp <;> omega) | omega) _) (by first | (simp <;> omega) | omega) hG)⟩
theorem tooDeep_ok (t : Tm) (x : Vw) (h : t.ok) (hx : x.ok) (w : World) :
    Calls Tryz.prog 171 #[.agg #[], .agg t.cs.toArray, .agg #[.int .i64 x.la, .int .i64 x.lb, .int .i64 x.ra, .int .i64 x.rb, .int .i64 x.sa, .int .i64 x.sb]] w fun e w' => e = .returned (.bool (decide (x.sa < t.win - t.k.deep))) ∧ Below w.heap.size w w' := by
  have hfd0 := @fld23_0
  have hfd1 := @fld23_1
  have HS := Lib.hid (fun W => shifts_ok t h W)
  have hb0 : Box (((w.alloc (Obj.cells #[] 171)).alloc (Obj.cells t.cs.toArray 83)).alloc (Obj.cells #[.int .i64 x.la, .int .i64 x.lb, .int .i64 x.ra, .int .i64 x.rb, .int .i64 x.sa, .int .i64 x.sb] 127)) (w.heap.size + 1) t.cs 83 := by
    have := (Box.fresh (w.alloc (Obj.cells #[] 171)) t.cs 83).grow (Gr.alloc _ (Obj.cells #[.int .i64 x.la, .int .i64 x.lb, .int .i64 x.ra, .int .i64 x.rb, .int .i64 x.sa, .int .i64 x.sb] 127))
    simpa using this
  have HB := Lib.hid hb0
  clear hb0 h hx
  have hl : t.cs.length = 22 := rfl
  go_enter Tryz.func171, Tryz.ntmps171
  go_wp2
  refine region2 7 ?_ ?_ ?_
  · kernel_rfl
  · kernel_rfl
  simp only [List.take_succ_cons, List.take_zero, List.drop_succ_cons, List.drop_zero]
  apply ceq (D := [(5, none)]) rfl (by kernel_rfl)
  · intro ρ W ⟨p1,p2,p3⟩ hG hF K hK; (try simp [FD] at hF); have ⟨hc, hf, hz⟩ := bdr hG; go_simp; exact hK _ gv
  apply ceq (D := [(7, some 0)]) rfl (by kernel_rfl)
  · intro ρ W ⟨p1,p2,p3⟩ hG hF K hK; (try simp [FD] at hF); have ⟨hc, hf, hz⟩ := bdr hG; go_simp; exact hK _ gv
  apply ceq (D := [(8, some 0)]) rfl (by kernel_rfl)
  · intro ρ W ⟨p1,p2,p3⟩ hG hF K hK; (try simp [FD] at hF); have ⟨hc, hf, hz⟩ := bdr hG; go_simp; exact hK _ gv
  apply ceq (D := [(4, none)]) rfl (by kernel_rfl)
  · intro ρ W ⟨p1,p2,p3⟩ hG hF K hK; (try simp [FD] at hF); rw [xlb row83 t.cs_len (HB.out.grow (Gr.tr (Gr.drew _) hG)) rfl hF]; exact hK _ gv
  apply ceq (D := [(10, some 0)]) rfl (by kernel_rfl)
  · intro ρ W ⟨p1,p2,p3⟩ hG hF K hK; (try simp [FD] at hF); have ⟨hc, hf, hz⟩ := bdr hG; go_simp; exact hK _ (gc (HS.out _))
  apply ceq (D := [(11, some 0)]) rfl (by kernel_rfl)
  · intro ρ W ⟨p1,p2,p3⟩ hG hF K hK; (try simp [FD] at hF); have ⟨hc, hf, hz⟩ := bdr hG; go_simp; exact hK _ gv
  apply ceq (D := [(9, some 3), (12, some 0)]) rfl (by kernel_rfl)
  · intro ρ W ⟨p1,p2,p3⟩ hG hF K hK; (try simp [FD] at hF); have ⟨hc, hf, hz⟩ := bdr hG; go_simp; exact hK _ gv
  refine cdn ?_
  intro vs W hG hV
  obtain ⟨e6, -⟩ := hV
  simp only [Nat.reduceSub] at e6
  simp only [lay, Act.put, List.getElem?_toArray, List.getElem?_cons_succ, List.getElem?_cons_zero, Option.bind_some, List.setIfInBounds_toArray, List.set_cons_succ, List.set_cons_zero]
  generalize vs 0 = v0, vs 1 = v1, vs 2 = v2, vs 3 = v3, vs 4 = v4, vs 5 = v5
  generalize vs 6 = v6 at *
  subst e6
  obtain ⟨hc, hf, hz⟩ := bcell hG
  go_wp2
  go_ret
  exact ⟨rfl, (bgr ((((Below.refl _ _).alloc (by first | (simp <;> omega) | omega) _).alloc (by first | (simp <;> omega) | omega) _).alloc (by first | (simp <;> omega) | omega) _) (by first | (simp <;> omega) | omega) hG)⟩
end Go.Proofs.YtcngaohfemdfjaaGreat
namespace Go.Proofs.YtcngaohfemdfjaaGreat
open Go.RowKit
theorem IntsAt.single (a : Int) (W : World) (T : TypeId) : IntsAt [a] (.slice (some ⟨W.heap.size, 0, none⟩) 1 1) (W.alloc (.cells #[.int .i64 a] T)) := IntsAt.new [a] W T (by simp)
theorem IntsAt.three (a b c : Int) (W : World) (T : TypeId) : IntsAt [a, b, c] (.slice (some ⟨W.heap.size, 0, none⟩) 3 3) (W.alloc (.cells #[.int .i64 a, .int .i64 b, .int .i64 c] T)) := IntsAt.new [a, b, c] W T (by simp)
def Tm.over (t : Tm) (x : Vw) : Int := [x.lb - (t.k.half - t.k.step * t.u.b), -t.k.half + t.k.step * t.u.c - x.ra, x.rb - (t.k.half - t.k.step * t.u.d)].foldl imax (-t.k.half + t.k.step * t.u.a - x.la)
theorem cutAtEdge_ok (t : Tm) (x : Vw) (h : t.ok) (hx : x.ok) (w : World) :
    Calls Tryz.prog 172 #[.agg #[], .agg t.cs.toArray, .agg #[.int .i64 x.la, .int .i64 x.lb, .int .i64 x.ra, .int .i64 x.rb, .int .i64 x.sa, .int .i64 x.sb]] w fun e w' => e = .returned (.bool (decide (0 < t.over x))) ∧ Below w.heap.size w w' := by
  have HL := Lib.hid (fun W => leftPrint_ok t h W)
  have HR := Lib.hid (fun W => rightPrint_ok t h W)
  have h1 := step_mul h.step (x := t.u.a) (by have := h.a; omega)
  have h2 := step_mul h.step (x := t.u.b) (by have := h.b; omega)
  have h3 := step_mul h.step (x := t.u.c) (by have := h.c; omega)
  have h4 := step_mul h.step (x := t.u.d) (by have := h.d; omega)
  have h5 := h.half
  unfold Tm.over
  generalize hl0 : -t.k.half + t.k.step * t.u.a = l0 at *
  generalize hl1 : t.k.half - t.k.step * t.u.b = l1 at *
  generalize hr0 : -t.k.half + t.k.step * t.u.c = r0 at *
  generalize hr1 : t.k.half - t.k.step * t.u.d = r1 at *
  have b0 : -12000 ≤ l0 ∧ l0 ≤ 12000 := by omega
  have b1 : -12000 ≤ l1 ∧ l1 ≤ 12000 := by omega
  have b2 : -12000 ≤ r0 ∧ r0 ≤ 12000 := by omega
  have b3 : -12000 ≤ r1 ∧ r1 ≤ 12000 := by omega
  obtain ⟨x0, x1, x2, x3, -, -⟩ := hx
  clear h h1 h2 h3 h4 h5 hl0 hl1 hr0 hr1
  have hb0 : Box (((w.alloc (Obj.cells #[] 172)).alloc (Obj.cells t.cs.toArray 83)).alloc (Obj.cells #[.int .i64 x.la, .int .i64 x.lb, .int .i64 x.ra, .int .i64 x.rb, .int .i64 x.sa, .int .i64 x.sb] 127)) (w.heap.size + 1) t.cs 83 := by
    have := (Box.fresh (w.alloc (Obj.cells #[] 172)) t.cs 83).grow (Gr.alloc _ (Obj.cells #[.int .i64 x.la, .int .i64 x.lb, .int .i64 x.ra, .int .i64 x.rb, .int .i64 x.sa, .int .i64 x.sb] 127))
    simpa using this
  have HB := Lib.hid hb0
  clear hb0
  have hl : t.cs.length = 22 := rfl
  have hal := @cal
  go_enter Tryz.func172, Tryz.ntmps172
  go_wp2
  refine regionB 6 ?_ ?_ ?_
  · kernel_rfl
  · kernel_rfl
  simp only [List.take_succ_cons, List.take_zero, List.drop_succ_cons, List.drop_zero]
  apply cbe (D := [(4, none)]) rfl (by kernel_rfl)
  · intro ρ W ⟨p1,p2,p3⟩ hG hF K hK; (try simp [FD, exB] at hF); rw [xlb row83 t.cs_len (HB.out.grow (Gr.tr (Gr.drew _) hG)) rfl hF]; exact hK _ gv
  apply cbe (D := [(9, some 0)]) rfl (by kernel_rfl)
  · intro ρ W ⟨p1,p2,p3⟩ hG hF K hK; (try simp [FD, exB] at hF); have ⟨hc, hf, hz⟩ := bdr hG; go_simp; exact hK _ (gc (HL.out _))
  apply cbe (D := [(4, none)]) rfl (by kernel_rfl)
  · intro ρ W ⟨p1,p2,p3⟩ hG hF K hK; (try simp [FD, exB] at hF); rw [xlb row83 t.cs_len (HB.out.grow (Gr.tr (Gr.drew _) hG)) rfl hF]; exact hK _ gv
  apply cbe (D := [(11, some 0)]) rfl (by kernel_rfl)
  · intro ρ W ⟨p1,p2,p3⟩ hG hF K hK; (try simp [FD, exB] at hF); have ⟨hc, hf, hz⟩ := bdr hG; go_simp; exact hK _ (gc (HR.out _))
  refine chainB_any (V := fun p v W' => NewB [.int .i64 0, .int .i64 0] 23 p v W' ∧ w.heap.size + 1 + 1 + 1 ≤ p.1) (D := []) rfl (by kernel_rfl) (fun p v A B h hg => ⟨NewB.lasts _ _ p v A B h.1 hg, h.2⟩) ?_ ?_
  · intro ρ W ⟨p1,p2,p3⟩ hG hF K hK; (try simp [FD, exB] at hF); have ⟨hc, hf, hz⟩ := bdr hG; go_simp; exact hK _ (⟨⟨NewB.new _ _ _, by have := hG.size; simpa using this⟩, Gr.alloc _ _⟩)
  refine chainB_any (V := fun p v W' => NewB [.int .i64 0, .int .i64 0] 23 p v W' ∧ w.heap.size + 1 + 1 + 1 ≤ p.1) (D := []) rfl (by kernel_rfl) (fun p v A B h hg => ⟨NewB.lasts _ _ p v A B h.1 hg, h.2⟩) ?_ ?_
  · intro ρ W ⟨p1,p2,p3⟩ hG hF K hK; (try simp [FD, exB] at hF); have ⟨hc, hf, hz⟩ := bdr hG; go_simp; exact hK _ (⟨⟨NewB.new _ _ _, by have := hG.size; simpa using this⟩, Gr.alloc _ _⟩)
  refine chainB_done ?_
  intro vs bs W hG hV hdj
  obtain ⟨e5, e4, e3, -, e1, -⟩ := hV
  simp only [Nat.reduceSub] at e1 e3
  simp only [Nat.reduceSub] at e4 e5
  have hd45 := hdj 4 5 (by omega) (by omega) (by omega)
  clear hdj
  simp only [lay, Act.put, List.getElem?_toArray, List.getElem?_cons_succ, List.getElem?_cons_zero, Option.bind_some, List.setIfInBounds_toArray, List.set_cons_succ, List.set_cons_zero]
  generalize vs 0 = v0
  generalize vs 1 = v1 at *
  generalize vs 2 = v2
  generalize vs 3 = v3 at *
  generalize vs 4 = v4 at *
  generalize vs 5 = v5 at *
  subst e1
  subst e3
  obtain ⟨hc, hf, hz⟩ := bcell hG
  obtain ⟨⟨b8, rfl, hb8, hb8', hB8⟩, hb8n⟩ := e4
  obtain ⟨⟨b9, rfl, hb9, hb9', hB9⟩, hb9n⟩ := e5
  have hne : ¬ b8 = b9 := by omega
  have hne' : ¬ b9 = b8 := by omega
  have hl8 : w.heap.size + 2 < b8 := by omega
  have hl9 : w.heap.size + 2 < b9 := by omega
  obtain ⟨y0, y1, yf0, yf1, yl⟩ := hB8.two
  obtain ⟨z0, z1, zf0, zf1, zl⟩ := hB9.two
  have HGW := Lib.hid (show Gr w W from (((Gr.alloc _ _).tr (Gr.alloc _ _)).tr (Gr.alloc _ _)).tr hG)
  clear hB8 hB9 hG hb8 hb8' hb9 hb9' hd45 hb8n hb9n hf hz
  have HI := Lib.hid (show ∀ a b c : Int, IntsAt [a, b, c] (.slice (some ⟨W.heap.size, 0, none⟩) 3 3) (((((W.setCell ⟨b8, 0, none⟩ (.int .i64 l0)).setCell ⟨b8, 1, none⟩ (.int .i64 l1)).setCell ⟨b9, 0, none⟩ (.int .i64 r0)).setCell ⟨b9, 1, none⟩ (.int .i64 r1)).alloc (.cells #[.int .i64 a, .int .i64 b, .int .i64 c] 3)) from fun a b c => by
    have := IntsAt.three a b c ((((W.setCell ⟨b8, 0, none⟩ (.int .i64 l0)).setCell ⟨b8, 1, none⟩ (.int .i64 l1)).setCell ⟨b9, 0, none⟩ (.int .i64 r0)).setCell ⟨b9, 1, none⟩ (.int .i64 r1)) 3
    simpa using this)
  go_wp2_with (go_at_call 126; refine (greatest_any _ _ _ _ (HI.out _ _ _)).mono ?_; rintro e w3 ⟨rfl, hb3⟩)
  go_ret
  refine ⟨rfl, ?_⟩
  have hXG : Gr w ((((W.setCell ⟨b8, 0, none⟩ (.int .i64 l0)).setCell ⟨b8, 1, none⟩ (.int .i64 l1)).setCell ⟨b9, 0, none⟩ (.int .i64 r0)).setCell ⟨b9, 1, none⟩ (.int .i64 r1)) := (((HGW.out.setCell (by simp; omega) _).setCell (by simp; omega) _).setCell (by simp; omega) _).setCell (by simp; omega) _
  exact (hXG.tr (Gr.alloc _ _)).tr hb3
end Go.Proofs.YtcngaohfemdfjaaGreat
namespace Go.Proofs.YtcngaohfemdfjaaGreat
open Go.RowKit
structure Only (b : Nat) (w w' : World) : Prop where
  low : Below b w w'
  size : w.heap.size ≤ w'.heap.size
  keep : ∀ k, k ≠ b → k < w.heap.size → w'.heap[k]? = w.heap[k]?
theorem Only.of {b : Nat} {w w' : World} (hb : b < w.heap.size) (h : Gr w w') : Only b w w' := ⟨Below.mono h (by omega), h.size, fun k _ hk => h.block k hk⟩
theorem Only.tr {b : Nat} {u v w : World} (h : Only b u v) (k : Only b v w) : Only b u w :=
  ⟨h.low.trans k.low, Nat.le_trans h.size k.size, fun j hj hl => (k.keep j hj (Nat.lt_of_lt_of_le hl h.size)).trans (h.keep j hj hl)⟩
theorem Only.set {b : Nat} (w : World) (i : Nat) (v : Value) : Only b w (w.setCell ⟨b, i, none⟩ v) :=
  ⟨by have := (Below.refl b w).setCell (p := ⟨b, i, none⟩) (Nat.le_refl b) v; exact this, by simp, fun k hk hl => Below.heap_setCell _ _ _ _ hk⟩
theorem Only.box {b : Nat} {w w' : World} (h : Only b w w') {c : Nat} {vs : List Value} {T : TypeId} (hc : Box w c vs T) (hne : c ≠ b) : Box w' c vs T := (h.keep c hne hc.lt).trans hc
theorem mnarrow_any (b : Nat) (x y lo hi : Int) (w : World) (hb : Box w b [.int .i64 x, .int .i64 y] 136) :
    Calls Tryz.prog 96 #[.pointer (some ⟨b, 0, none⟩), .int .i64 lo, .int .i64 hi] w fun e w' => e = .returned (.tuple #[]) ∧ Box w' b [.int .i64 (imax x lo), .int .i64 (imin y hi)] 136 ∧ Only b w w' := by
  obtain ⟨y0, y1, yf0, yf1, yl⟩ := hb.two
  have HB := Lib.hid hb
  clear hb
  go_enter Tryz.func96, Tryz.ntmps96
  go_wp2
  refine region4 16 1 (v := .pointer (some ⟨b, 0, none⟩)) ?_ rfl ?_ ?_ ?_ (fun _ _ _ h => h) (Or.inl ⟨rfl, ?_⟩) ?_ ?_
  · kernel_rfl
  · kernel_rfl
  · kernel_rfl
  · kernel_rfl
  · intro w; go_simp
  · kernel_rfl
  simp only [List.take_succ_cons, List.take_zero, List.drop_succ_cons, List.drop_zero]
  apply ceq (D := [(0, none)]) rfl (by kernel_rfl)
  · intro ρ W ⟨p1,p2,p3⟩ hG hF K hK; (try simp [FD, Act.put] at hF); have ⟨hc, hf, hz⟩ := bdr hG; go_simp; exact hK _ gv
  apply ceq (D := [(0, none)]) rfl (by kernel_rfl)
  · intro ρ W ⟨p1,p2,p3⟩ hG hF K hK; (try simp [FD, Act.put] at hF); have ⟨hc, hf, hz⟩ := bdr hG; go_simp; exact hK _ gv
  apply ceq (D := [(0, none)]) rfl (by kernel_rfl)
  · intro ρ W ⟨p1,p2,p3⟩ hG hF K hK; (try simp [FD, Act.put] at hF); have ⟨hc, hf, hz⟩ := bdr hG; go_simp; exact hK _ gv
  apply ceq (D := [(8, some 0)]) rfl (by kernel_rfl)
  · intro ρ W ⟨p1,p2,p3⟩ hG hF K hK; (try simp [FD, Act.put] at hF); have ⟨hc, hf, hz⟩ := bdr hG; go_simp; exact hK _ gv
  apply ceq (D := [(9, some 0)]) rfl (by kernel_rfl)
  · intro ρ W ⟨p1,p2,p3⟩ hG hF K hK; (try simp [FD, Act.put] at hF); have ⟨hc, hf, hz⟩ := bdr hG; go_simp; exact hK _ gv
  apply ceq (D := [(10, some 0)]) rfl (by kernel_rfl)
  · intro ρ W ⟨p1,p2,p3⟩ hG hF K hK; (try simp [FD, Act.put] at hF); have ⟨hc, hf, hz⟩ := bdr hG; go_simp; exact hK _ gv
  apply ceq (D := [(1, none)]) rfl (by kernel_rfl)
  · intro ρ W ⟨p1,p2,p3⟩ hG hF K hK; (try simp [FD, Act.put] at hF); have ⟨hc, hf, hz⟩ := bdr hG; go_simp; exact hK _ gv
  refine cny (V := IntsAt [lo]) (D := [(12, some 0)]) rfl (by kernel_rfl) (IntsAt.lasts _) ?_ ?_
  · intro ρ W ⟨p1,p2,p3⟩ hG hF K hK; (try simp [FD, Act.put] at hF); have ⟨hc, hf, hz⟩ := bdr hG; go_simp; exact hK _ (⟨IntsAt.single _ _ _, Gr.alloc _ _⟩)
  apply ceq (D := [(11, some 2), (13, some 0)]) rfl (by kernel_rfl)
  · intro ρ W ⟨p1,p2,p3⟩ hG hF K hK; (try simp [FD, Act.put] at hF); have ⟨hc, hf, hz⟩ := bdr hG; obtain ⟨hF1, hF2⟩ := hF; go_simp; exact hK _ (gc (greatest_any _ _ _ _ hF2))
  apply ceq (D := [(0, none)]) rfl (by kernel_rfl)
  · intro ρ W ⟨p1,p2,p3⟩ hG hF K hK; (try simp [FD, Act.put] at hF); have ⟨hc, hf, hz⟩ := bdr hG; go_simp; exact hK _ gv
  apply ceq (D := [(15, some 0)]) rfl (by kernel_rfl)
  · intro ρ W ⟨p1,p2,p3⟩ hG hF K hK; (try simp [FD, Act.put] at hF); have ⟨hc, hf, hz⟩ := bdr hG; go_simp; exact hK _ gv
  apply ceq (D := [(16, some 0)]) rfl (by kernel_rfl)
  · intro ρ W ⟨p1,p2,p3⟩ hG hF K hK; (try simp [FD, Act.put] at hF); have ⟨hc, hf, hz⟩ := bdr hG; go_simp; exact hK _ gv
  apply ceq (D := [(17, some 0)]) rfl (by kernel_rfl)
  · intro ρ W ⟨p1,p2,p3⟩ hG hF K hK; (try simp [FD, Act.put] at hF); have ⟨hc, hf, hz⟩ := bdr hG; go_simp; exact hK _ gv
  apply ceq (D := [(2, none)]) rfl (by kernel_rfl)
  · intro ρ W ⟨p1,p2,p3⟩ hG hF K hK; (try simp [FD, Act.put] at hF); have ⟨hc, hf, hz⟩ := bdr hG; go_simp; exact hK _ gv
  refine cny (V := IntsAt [hi]) (D := [(19, some 0)]) rfl (by kernel_rfl) (IntsAt.lasts _) ?_ ?_
  · intro ρ W ⟨p1,p2,p3⟩ hG hF K hK; (try simp [FD, Act.put] at hF); have ⟨hc, hf, hz⟩ := bdr hG; go_simp; exact hK _ (⟨IntsAt.single _ _ _, Gr.alloc _ _⟩)
  apply ceq (D := [(18, some 2), (20, some 0)]) rfl (by kernel_rfl)
  · intro ρ W ⟨p1,p2,p3⟩ hG hF K hK; (try simp [FD, Act.put] at hF); have ⟨hc, hf, hz⟩ := bdr hG; obtain ⟨hF1, hF2⟩ := hF; go_simp; exact hK _ (gc (least_any _ _ _ _ hF2))
  refine cdn ⟨rfl, ?_⟩
  intro vs W hG hV
  obtain ⟨e15, -, -, -, -, -, -, e8, -, -, -, -, -, -, e1, e0, -⟩ := hV
  simp only [Nat.reduceSub] at e0 e1
  simp only [Nat.reduceSub] at e8 e15
  simp only [lay, Act.put, List.getElem_toArray, List.getElem_cons_succ, List.getElem_cons_zero, List.getElem?_toArray, List.getElem?_cons_succ, List.getElem?_cons_zero, Option.bind_some, List.setIfInBounds_toArray, List.set_cons_succ, List.set_cons_zero]
  generalize vs 0 = v0 at *
  generalize vs 1 = v1 at *
  generalize vs 2 = v2, vs 3 = v3, vs 4 = v4, vs 5 = v5, vs 6 = v6, vs 7 = v7
  generalize vs 8 = v8 at *
  generalize vs 9 = v9, vs 10 = v10, vs 11 = v11, vs 12 = v12, vs 13 = v13, vs 14 = v14
  generalize vs 15 = v15 at *
  subst e0
  subst e1
  subst e8
  subst e15
  obtain ⟨hc, hf, hz⟩ := bcell hG
  have HG := Lib.hid hG
  have HK := Lib.hid (HB.out.grow hG)
  obtain ⟨c0, c1, f0, f1, hbl⟩ := HK.out.two
  clear hG hc hf hz y0 y1 yf0 yf1
  simp only [List.foldl_cons, List.foldl_nil]
  go_wp2
  go_end0
  refine ⟨rfl, ?_, ?_⟩
  · exact (HK.out.put 0 _).put 1 _
  · exact ((Only.of yl HG.out).tr (Only.set _ _ _)).tr (Only.set _ _ _)
end Go.Proofs.YtcngaohfemdfjaaGreat
namespace Go.Proofs.YtcngaohfemdfjaaGreat
open Go.RowKit Go.MapKept
def ent (p : Int × Vw) : Value × Value := (.int .i64 p.1, .agg p.2.vals.toArray)
def MapAt (es : List (Int × Vw)) (mb : Nat) (w : World) : Prop := ∃ (l : Array MapEntry) (clock : Nat), w.heap[mb]? = some (.map l clock) ∧ l.toList.map (fun e => (e.key, e.val)) = es.map ent
def lk : List (Int × Vw) → Int → Option Vw
  | [], _ => none
  | (k, x) :: es, n => if n = k then some x else lk es n
theorem MapAt.lt {es : List (Int × Vw)} {mb : Nat} {w : World} (h : MapAt es mb w) : mb < w.heap.size := by
  obtain ⟨l, c, h, -⟩ := h
  exact (Array.getElem?_eq_some_iff.1 h).1
theorem MapAt.grow {es : List (Int × Vw)} {mb : Nat} {w w' : World} (h : MapAt es mb w) (hg : Gr w w') : MapAt es mb w' := by
  obtain ⟨l, c, h1, h2⟩ := h
  exact ⟨l, c, (hg.block mb (Array.getElem?_eq_some_iff.1 h1).1).trans h1, h2⟩
theorem MapAt.only {es : List (Int × Vw)} {mb b : Nat} {w w' : World} (h : MapAt es mb w) (hg : Only b w w') (hne : mb ≠ b) : MapAt es mb w' := by
  obtain ⟨l, c, h1, h2⟩ := h
  exact ⟨l, c, (hg.keep mb hne (Array.getElem?_eq_some_iff.1 h1).1).trans h1, h2⟩
theorem MapAt.new (w : World) : MapAt [] w.heap.size (w.alloc (.map #[] 0)) := ⟨#[], 0, by show (w.heap.push _)[w.heap.size]? = _; simp, rfl⟩
theorem findNow_lk (n : Int) : ∀ (l : List MapEntry) (es : List (Int × Vw)) (i : Nat), l.map (fun e => (e.key, e.val)) = es.map ent → ∃ j, Instr.findNow (.int .i64) (.int .i64 n) l i = some ((lk es n).map fun x => (j, .agg x.vals.toArray))
  | [], [], _, _ => ⟨0, rfl⟩
  | [], _ :: _, _, h => by simp at h
  | _ :: _, [], _, h => by simp at h
  | e :: l, (k, x) :: es, i, h => by
    simp only [List.map_cons, List.cons.injEq] at h
    obtain ⟨h1, h2⟩ := h
    unfold ent at h1
    simp only [Prod.mk.injEq] at h1
    obtain ⟨hk, hv⟩ := h1
    obtain ⟨j, hj⟩ := findNow_lk n l es (i + 1) h2
    unfold Instr.findNow lk
    rw [hk]
    by_cases hn : n = k
    · subst hn
      exact ⟨i, by simp [Instr.sameNow, hv]⟩
    · refine ⟨j, ?_⟩
      have : Instr.sameNow (.int .i64) (.int .i64 n) (.int .i64 k) = some false := by simp [Instr.sameNow, hn]
      rw [this, if_neg hn]
      exact hj
def Vw.none : Vw := ⟨0, 0, 0, 0, 0, 0⟩
theorem isKey (n : Int) : IsKey (.int .i64) (.int .i64 n) := by simp [IsKey]
theorem under3 : Tryz.prog.underlying 3 = some (.int .i64) := by kernel_rfl
theorem under69 : Tryz.prog.underlying 69 = some (.map 3 127) := by kernel_rfl
theorem run_lookup {es : List (Int × Vw)} {mb : Nat} {w : World} (h : MapAt es mb w) (n : Int) :
    (Instr.lookup 69 (.map (some mb)) (.int .i64 n) true).run Tryz.prog w = .ok (.tuple #[.agg (((lk es n).getD Vw.none).vals.toArray), .bool (lk es n).isSome]) w := by
  obtain ⟨l, c, h1, h2⟩ := h
  obtain ⟨j, hj⟩ := findNow_lk n l.toList es 0 h2
  have hz := Tryz.zeroValue127
  cases hl : lk es n with
  | none =>
    rw [hl] at hj
    simp [Instr.lookup, run_underlying under69, Go.MapKept.run_getObj_map h1, run_checkKey under3 (isKey n), run_findKey under3 hj, hz, Result.andThen, Vw.none, Vw.vals]
  | some x =>
    rw [hl] at hj
    simp [Instr.lookup, run_underlying under69, Go.MapKept.run_getObj_map h1, run_checkKey under3 (isKey n), run_findKey under3 hj, Result.andThen]
theorem run_update {es : List (Int × Vw)} {mb : Nat} {w : World} (h : MapAt es mb w) (n : Int) (x : Vw) (hn : lk es n = none) :
    ∃ w', (Instr.mapUpdate 69 (.map (some mb)) (.int .i64 n) (.agg x.vals.toArray)).run Tryz.prog w = .ok () w' ∧ MapAt (es ++ [(n, x)]) mb w' ∧ Only mb w w' := by
  obtain ⟨l, c, h1, h2⟩ := h
  obtain ⟨j, hj⟩ := findNow_lk n l.toList es 0 h2
  rw [hn] at hj
  have hm : mb < w.heap.size := (Array.getElem?_eq_some_iff.1 h1).1
  refine ⟨{ w with heap := w.heap.setIfInBounds mb (.map (l.push { key := .int .i64 n, val := .agg x.vals.toArray, born := c }) (c + 1)) }, ?_, ⟨l.push { key := .int .i64 n, val := .agg x.vals.toArray, born := c }, c + 1, by simp [hm], by simp [h2, ent]⟩, ⟨⟨rfl, rfl, rfl, by simp, fun k hk => by simp [Array.getElem?_setIfInBounds_ne (show mb ≠ k by omega)]⟩, by simp, fun k hk _ => by simp [Array.getElem?_setIfInBounds_ne (Ne.symm hk)]⟩⟩
  simp [Instr.mapUpdate, run_underlying under69, Go.MapKept.run_getObj_map h1, run_checkKey under3 (isKey n), run_findKey under3 hj, Result.andThen, run_setObj_map _ h1]
theorem wpList_update {ops : Array Oper} {rest : List Oper} {o : Oper} {a : Act} {w : World} {Q : Exit → Act → World → Prop} {m k v : Operand} {es : List (Int × Vw)} {mb : Nat} {n : Int} {x : Vw} (h : MapAt es mb w) (hn : lk es n = none)
    (ho : o.op = .mapUpdate 69 m k v) (hgd : o.guard = none) (hm : a.eval m = .map (some mb)) (hk : a.eval k = .int .i64 n) (hv : a.eval v = .agg x.vals.toArray)
    (hK : ∀ w', MapAt (es ++ [(n, x)]) mb w' → Only mb w w' → wpList Tryz.prog ops Q rest (a.put o.dst undef) w') : wpList Tryz.prog ops Q (o :: rest) a w := by
  refine wpList_plain hgd fun K hQ => ?_
  obtain ⟨w', h1, h2, h3⟩ := run_update h n x hn
  unfold Oper.wp execOp
  simp only [ho, hm, hk, hv, Sem.run_bind, h1, Result.andThen_ok, Sem.run_pure]
  exact hQ _ _ (hK w' h2 h3)
end Go.Proofs.YtcngaohfemdfjaaGreat
