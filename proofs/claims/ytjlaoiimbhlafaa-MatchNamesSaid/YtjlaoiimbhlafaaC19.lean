import Derived.Test.YtjlaoiimbhlafaaC18
set_option linter.unusedVariables false
set_option linter.unusedSimpArgs false
namespace Go.Proofs.Ytjlaoiimbhlafaa
open Go.RowKit Go.Shelf

open MW
theorem cells4 {W : World} {b : Nat} {x y z u : Value} {T : TypeId} (h : Box W b [x, y, z, u] T) : W.cell? ⟨b, 0, none⟩ = some x ∧ W.cell? ⟨b, 1, none⟩ = some y ∧ W.cell? ⟨b, 2, none⟩ = some z ∧ W.cell? ⟨b, 3, none⟩ = some u := ⟨h.cell (i := 0) rfl, h.cell (i := 1) rfl, h.cell (i := 2) rfl, h.cell (i := 3) rfl⟩

def Lk.sh (k : Lk) (x y : Mrk) : Int × Int := (mxI (x.a - y.b) k.s, mnI (x.b - y.a) k.t)
set_option maxHeartbeats 1000000 in
theorem shift_any (k : Lk) (x y : Mrk) (w : World) (hx : x.In) (hy : y.In) :
    Calls Try.prog 69 #[.agg k.cs.toArray, x.val, y.val] w fun e w' => e = .returned (spV (k.sh x y).1 (k.sh x y).2) ∧ Below w.heap.size w w' := by
  have HA := Lib.hid (fun W => apart_any x y W hx hy)
  have HO := Lib.hid (fun W => overlap_any (x.a - y.b) (x.b - y.a) k.s k.t W)
  unfold Lk.sh
  dsimp only
  generalize mxI (x.a - y.b) k.s = p at *
  generalize mnI (x.b - y.a) k.t = q at *
  have HB := Lib.hid ((((Box.fresh w k.cs 85).grow (Gr.alloc _ (Obj.cells x.cs.toArray 65))).grow (Gr.alloc _ (Obj.cells y.cs.toArray 65))).grow (Gr.alloc _ (Obj.cells #[.int .i64 0, .int .i64 0] 24)))
  have HX := Lib.hid (show Box ((((w.alloc (Obj.cells k.cs.toArray 85)).alloc (Obj.cells x.cs.toArray 65)).alloc (Obj.cells y.cs.toArray 65)).alloc (Obj.cells #[.int .i64 0, .int .i64 0] 24)) (w.heap.size + 1) x.cs 65 by
    have := ((Box.fresh (w.alloc (Obj.cells k.cs.toArray 85)) x.cs 65).grow (Gr.alloc _ (Obj.cells y.cs.toArray 65))).grow (Gr.alloc _ (Obj.cells #[.int .i64 0, .int .i64 0] 24))
    simpa using this)
  have HY := Lib.hid (show Box ((((w.alloc (Obj.cells k.cs.toArray 85)).alloc (Obj.cells x.cs.toArray 65)).alloc (Obj.cells y.cs.toArray 65)).alloc (Obj.cells #[.int .i64 0, .int .i64 0] 24)) (w.heap.size + 1 + 1) y.cs 65 by
    have := (Box.fresh ((w.alloc (Obj.cells k.cs.toArray 85)).alloc (Obj.cells x.cs.toArray 65)) y.cs 65).grow (Gr.alloc _ (Obj.cells #[.int .i64 0, .int .i64 0] 24))
    simpa using this)
  have HZ := Lib.hid (show Box ((((w.alloc (Obj.cells k.cs.toArray 85)).alloc (Obj.cells x.cs.toArray 65)).alloc (Obj.cells y.cs.toArray 65)).alloc (Obj.cells #[.int .i64 0, .int .i64 0] 24)) (w.heap.size + 1 + 1 + 1) [.int .i64 0, .int .i64 0] 24 by
    have := Box.fresh (((w.alloc (Obj.cells k.cs.toArray 85)).alloc (Obj.cells x.cs.toArray 65)).alloc (Obj.cells y.cs.toArray 65)) [.int .i64 0, .int .i64 0] 24
    simpa using this)
  unfold Mrk.cs at HX HY HB HZ
  unfold spV Mrk.val at *
  go_enter Try.func69, Try.ntmps69
  go_wp2_with fail
  refine region2 7 ?_ ?_ ?_
  · kernel_rfl
  · kernel_rfl
  simp only [List.take_succ_cons, List.take_zero, List.drop_succ_cons, List.drop_zero]
  apply chain_eq (D := [(4, none)]) rfl (by kernel_rfl)
  · intro ρ W4 ⟨p1, p2, p3⟩ hG hF K hK; (try simp [FactsD] at hF); have hD := Gr.tr (Gr.drew _) hG; obtain ⟨q0, q1, q2, q3⟩ := cells4 (HX.out.grow hD); go_simp; exact hK _ (gives_val)
  apply chain_eq (D := [(5, none)]) rfl (by kernel_rfl)
  · intro ρ W4 ⟨p1, p2, p3⟩ hG hF K hK; (try simp [FactsD] at hF); have hD := Gr.tr (Gr.drew _) hG; obtain ⟨q0, q1, q2, q3⟩ := cells4 (HY.out.grow hD); go_simp; exact hK _ (gives_val)
  apply chain_eq (D := [(7, some 1), (8, some 0)]) rfl (by kernel_rfl)
  · intro ρ W4 ⟨p1, p2, p3⟩ hG hF K hK; (try simp [FactsD] at hF); have hD := Gr.tr (Gr.drew _) hG; go_simp; exact hK _ (gives_call (HA.out _))
  apply chain_eq (D := [(3, none)]) rfl (by kernel_rfl)
  · intro ρ W4 ⟨p1, p2, p3⟩ hG hF K hK; (try simp [FactsD] at hF); have hD := Gr.tr (Gr.drew _) hG; go_simp; exact hK _ (gives_val)
  apply chain_eq (D := [(10, some 0)]) rfl (by kernel_rfl)
  · intro ρ W4 ⟨p1, p2, p3⟩ hG hF K hK; (try simp [FactsD] at hF); have hD := Gr.tr (Gr.drew _) hG; go_simp; exact hK _ (gives_val)
  apply chain_eq (D := [(11, some 0)]) rfl (by kernel_rfl)
  · intro ρ W4 ⟨p1, p2, p3⟩ hG hF K hK; (try simp [FactsD] at hF); have hD := Gr.tr (Gr.drew _) hG; have q0 := (HB.out.grow hD).cell k.c2; have q1 := (HB.out.grow hD).cell k.c3; go_simp; exact hK _ (gives_val)
  apply chain_eq (D := [(9, some 3), (12, some 0)]) rfl (by kernel_rfl)
  · intro ρ W4 ⟨p1, p2, p3⟩ hG hF K hK; (try simp [FactsD] at hF); have hD := Gr.tr (Gr.drew _) hG; go_simp; exact hK _ (gives_call (HO.out _))
  refine chain_done ?_
  intro vs W4 hG hV
  obtain ⟨e6, -⟩ := hV
  simp only [Nat.reduceSub] at e6
  simp only [lay, Act.put, List.getElem?_toArray, List.getElem?_cons_succ, List.getElem?_cons_zero, Option.bind_some, List.setIfInBounds_toArray, List.set_cons_succ, List.set_cons_zero]
  generalize vs 0 = v0
  generalize vs 1 = v1
  generalize vs 2 = v2
  generalize vs 3 = v3
  generalize vs 4 = v4
  generalize vs 5 = v5
  generalize vs 6 = v6 at *
  subst e6
  have HG := Lib.hid (show Gr _ W4 from hG)
  have HZ4 := Lib.hid (HZ.out.grow hG)
  obtain ⟨z0, z1, z2, z3, -⟩ := Box.two HZ4.out
  have zl := HZ4.out.lt
  clear hG
  go_wp2_with fail
  obtain ⟨y0, y1, -, -, -⟩ := Box.two ((HZ4.out.put 0 (.int .i64 p)).put 1 (.int .i64 q))
  exact bodyPost_ret (v := .agg #[.int .i64 p, .int .i64 q]) (by simp [results, Try.f69, go_sem, y0, y1]) rfl ⟨rfl, ((bgr (((((Below.refl _ _).alloc (by first | (simp; done) | (simp; omega) | omega) _).alloc (by first | (simp; done) | (simp; omega) | omega) _).alloc (by first | (simp; done) | (simp; omega) | omega) _).alloc (by first | (simp; done) | (simp; omega) | omega) _) (by first | (simp; done) | (simp; omega) | omega) HG.out).setCell (by first | (simp; done) | (simp; omega) | omega) _).setCell (by first | (simp; done) | (simp; omega) | omega) _⟩

theorem idx153 (f : Nat → Nat) {i : Nat} (h : i < 11) (W : World) : (Instr.index 153 (.agg (wrow f).toArray) (.int .i64 i)).run Try.prog W = .ok (.int .i64 (f i)) W := by
  have : i = 0 ∨ i = 1 ∨ i = 2 ∨ i = 3 ∨ i = 4 ∨ i = 5 ∨ i = 6 ∨ i = 7 ∨ i = 8 ∨ i = 9 ∨ i = 10 := by omega
  rcases this with rfl | rfl | rfl | rfl | rfl | rfl | rfl | rfl | rfl | rfl | rfl <;> (show _ = _; kernel_rfl)
set_option maxHeartbeats 1000000 in
theorem hidesLeft_any (k : Lk) (i : Nat) (w : World) (hk : k.Ok) (hi : i < k.nL) :
    Calls Try.prog 64 #[.agg k.cs.toArray, .int .i64 i] w fun e w' => e = .returned (.bool (decide (0 < k.spl i 10))) ∧ Below w.heap.size w w' := by
  have HS := Lib.hid (fun W => split_any k i W hk hi)
  have HB := Lib.hid (Box.fresh w k.cs 85)
  have hix := fun W => idx153 (k.spl i) (show 10 < 11 by omega) W
  have hix' : ∀ W, (Instr.index 153 (.agg (wrow (k.spl i)).toArray) (.int .i64 10)).run Try.prog W = .ok (.int .i64 (k.spl i 10)) W := hix
  have hd : decide ((0 : Int) < (k.spl i 10 : Nat)) = decide (0 < k.spl i 10) := by rw [decide_eq_decide]; omega
  generalize wrow (k.spl i) = R at *
  generalize k.spl i 10 = v at *
  clear hix
  go_enter Try.func64, Try.ntmps64
  go_wp2_with (first | (with_reducible refine wpList_stopLoad (ty := 85) rfl ?_; unfold Stop; refine wpList_loadBox row85 k.cs_len HB.out rfl rfl rfl ?_) | (go_at_call 101; refine (HS.out _).mono ?_; rintro e w1 ⟨rfl, hb1⟩))
  go_ret
  exact ⟨by simp, bgr ((Below.refl _ _).alloc (by first | (simp; done) | (simp; omega) | omega) _) (by first | (simp; done) | (simp; omega) | omega) hb1⟩
set_option maxHeartbeats 1000000 in
theorem hidesRight_any (k : Lk) (c : Nat) (w : World) (hk : k.Ok) (hc : c ≤ 10) :
    Calls Try.prog 65 #[.agg k.cs.toArray, .int .i64 c] w fun e w' => e = .returned (.bool (decide (0 < k.wy (woM k.all c) 0 0 k.h))) ∧ Below w.heap.size w w' := by
  have HW := Lib.hid (fun W => without_any k.all c W hc hk.m)
  have HC := Lib.hid (fun W => count_any k (woM k.all c) (woM_lt _ _) (fun a ha j hj hj' => by rw [woM_bit hk.m, hk.r a ha j hj hj', Bool.false_and]) hk.nL hk.nR hk.h W)
  have HB := Lib.hid (Box.fresh w k.cs 85)
  generalize k.wy (woM k.all c) 0 0 k.h = v at *
  have hd : decide ((0 : Int) < (v : Nat)) = decide (0 < v) := by rw [decide_eq_decide]; omega
  generalize opts (woM k.all c) = O at *
  go_enter Try.func65, Try.ntmps65
  go_wp2_with fail
  refine region2 8 ?_ ?_ ?_
  · kernel_rfl
  · kernel_rfl
  simp only [List.take_succ_cons, List.take_zero, List.drop_succ_cons, List.drop_zero]
  apply chain_eq (D := [(2, none)]) rfl (by kernel_rfl)
  · intro ρ W4 ⟨p1, p2, p3⟩ hG hF K hK; (try simp [FactsD] at hF); have hD := Gr.tr (Gr.drew _) hG; rw [exec_loadBox row85 k.cs_len (HB.out.grow hD) rfl hF]; exact hK _ gives_val
  apply chain_eq (D := [(2, none)]) rfl (by kernel_rfl)
  · intro ρ W4 ⟨p1, p2, p3⟩ hG hF K hK; (try simp [FactsD] at hF); have hD := Gr.tr (Gr.drew _) hG; go_simp; exact hK _ (gives_val)
  apply chain_eq (D := [(6, some 0)]) rfl (by kernel_rfl)
  · intro ρ W4 ⟨p1, p2, p3⟩ hG hF K hK; (try simp [FactsD] at hF); have hD := Gr.tr (Gr.drew _) hG; rw [exec_loadPart row83 (opts_len k.all) (HB.out.grow hD) k.part rfl hF]; exact hK _ gives_val
  apply chain_eq (D := [(1, none)]) rfl (by kernel_rfl)
  · intro ρ W4 ⟨p1, p2, p3⟩ hG hF K hK; (try simp [FactsD] at hF); have hD := Gr.tr (Gr.drew _) hG; go_simp; exact hK _ (gives_val)
  apply chain_eq (D := [(7, some 1), (8, some 0)]) rfl (by kernel_rfl)
  · intro ρ W4 ⟨p1, p2, p3⟩ hG hF K hK; (try simp [FactsD] at hF); have hD := Gr.tr (Gr.drew _) hG; go_simp; exact hK _ (gives_call (HW.out _))
  apply chain_eq (D := [(5, some 4), (9, some 0)]) rfl (by kernel_rfl)
  · intro ρ W4 ⟨p1, p2, p3⟩ hG hF K hK; (try simp [FactsD] at hF); have hD := Gr.tr (Gr.drew _) hG; go_simp; exact hK _ (gives_call (HC.out _))
  apply chain_eq (D := [(10, some 0)]) rfl (by kernel_rfl)
  · intro ρ W4 ⟨p1, p2, p3⟩ hG hF K hK; (try simp [FactsD] at hF); have hD := Gr.tr (Gr.drew _) hG; go_simp; exact hK _ (gives_val)
  apply chain_eq (D := [(11, some 0)]) rfl (by kernel_rfl)
  · intro ρ W4 ⟨p1, p2, p3⟩ hG hF K hK; (try simp [FactsD] at hF); have hD := Gr.tr (Gr.drew _) hG; go_simp; exact hK _ (gives_val)
  refine chain_done ?_
  intro vs W4 hG hV
  obtain ⟨e7, -⟩ := hV
  simp only [Nat.reduceSub] at e7
  simp only [lay, Act.put, List.getElem?_toArray, List.getElem?_cons_succ, List.getElem?_cons_zero, Option.bind_some, List.setIfInBounds_toArray, List.set_cons_succ, List.set_cons_zero]
  generalize vs 0 = v0
  generalize vs 1 = v1
  generalize vs 2 = v2
  generalize vs 3 = v3
  generalize vs 4 = v4
  generalize vs 5 = v5
  generalize vs 6 = v6
  generalize vs 7 = v7 at *
  subst e7
  have HG := Lib.hid (show Gr _ W4 from hG)
  clear hG
  go_wp2_with fail
  go_ret
  exact ⟨by simp, bgr ((Below.refl _ _).alloc (by first | (simp; done) | (simp; omega) | omega) _) (by first | (simp; done) | (simp; omega) | omega) HG.out⟩

end Go.Proofs.Ytjlaoiimbhlafaa
