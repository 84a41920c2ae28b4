import Derived.Test.YtjlaoiimbhlafaaC8
set_option linter.unusedVariables false
set_option linter.unusedSimpArgs false
namespace Go.Proofs.Ytjlaoiimbhlafaa
open Go.RowKit Go.Shelf

open MW
/-- The options, if this left mark has none but this one. -/
def onlM (m : Nat → Nat) (i c : Nat) : Nat → Nat := fun j => if j = i then m j &&& 2 ^ c else m j
def woM (m : Nat → Nat) (c : Nat) : Nat → Nat := fun j => cl (m j) c
theorem opts_set (m : Nat → Nat) (i x : Nat) : (opts m).set i (.int .i64 x) = opts (fun j => if j = i then x else m j) := by
  unfold opts
  apply List.ext_getElem?
  intro j
  rw [List.getElem?_set]
  by_cases h : i = j
  · subst h
    rw [if_pos rfl]
    by_cases hj : i < 10
    · simp [hj]
    · simp [hj]
  · rw [if_neg h]
    by_cases hj : j < 10
    · simp [hj, Ne.symm h]
    · simp [hj]
theorem idx83 (m : Nat → Nat) {i : Nat} (h : i < 10) (W : World) : (Instr.index 83 (.agg (opts m).toArray) (.int .i64 i)).run Try.prog W = .ok (.int .i64 (m i)) W := by
  have : i = 0 ∨ i = 1 ∨ i = 2 ∨ i = 3 ∨ i = 4 ∨ i = 5 ∨ i = 6 ∨ i = 7 ∨ i = 8 ∨ i = 9 := by omega
  rcases this with rfl | rfl | rfl | rfl | rfl | rfl | rfl | rfl | rfl | rfl <;> (show _ = _; kernel_rfl)
def zero10 : List Value := [.int .i64 0, .int .i64 0, .int .i64 0, .int .i64 0, .int .i64 0, .int .i64 0, .int .i64 0, .int .i64 0, .int .i64 0, .int .i64 0]
theorem opts_one (m : Nat → Nat) : (opts m).all (·.oneCell') = true := rfl
set_option maxHeartbeats 1000000 in
theorem only_any (m : Nat → Nat) (i c : Nat) (w : World) (hi : i < 10) (hc : c ≤ 10) (hm : m i < 2048) :
    Calls Try.prog 100 #[.agg (opts m).toArray, .int .i64 i, .int .i64 c] w fun e w' => e = .returned (.agg (opts (onlM m i c)).toArray) ∧ Below w.heap.size w w' := by
  have hO := opts_len m
  have HB := Lib.hid ((Box.fresh w (opts m) 83).grow (Gr.alloc _ (Obj.cells zero10.toArray 83)))
  have HZ := Lib.hid (show Box ((w.alloc (Obj.cells (opts m).toArray 83)).alloc (Obj.cells zero10.toArray 83)) (w.heap.size + 1) zero10 83 by
    have := Box.fresh (w.alloc (Obj.cells (opts m).toArray 83)) zero10 83
    simpa using this)
  have HA := Lib.hid (opts_at m hi)
  have HC := Lib.hid (fun W => setOf_any c W hc)
  have HN := Lib.hid (fun W => both_any (m i) (2 ^ c) W hm (pow11 c hc).1)
  have HS := Lib.hid (show (opts m).set i (.int .i64 ((m i &&& 2 ^ c : Nat) : Int)) = opts (onlM m i c) by
    rw [opts_set]
    congr 1
    funext j
    unfold onlM
    split
    · next h => rw [h]
    · rfl)
  have hi3 : (i : Int) < 10 := by omega
  have h10 : decide ((i : Int) < 10) = true := by simp; omega
  have h10' : decide (i < 10) = true := by simp; omega
  unfold zero10 at HB HZ
  generalize ((2 ^ c : Nat) : Int) = p at *
  generalize ((m i &&& 2 ^ c : Nat) : Int) = q at *
  clear hm
  go_enter Try.func100, Try.ntmps100
  go_wp2_with fail
  refine region2 8 ?_ ?_ ?_
  · kernel_rfl
  · kernel_rfl
  simp only [List.take_succ_cons, List.take_zero, List.drop_succ_cons, List.drop_zero]
  apply chain_eq (D := [(1, none)]) rfl (by kernel_rfl)
  · intro ρ W4 ⟨p1, p2, p3⟩ hG hF K hK; (try simp [FactsD] at hF); have hD := Gr.tr (Gr.drew _) hG; go_simp; exact hK _ (gives_val)
  apply chain_eq (D := [(1, none)]) rfl (by kernel_rfl)
  · intro ρ W4 ⟨p1, p2, p3⟩ hG hF K hK; (try simp [FactsD] at hF); have hD := Gr.tr (Gr.drew _) hG; go_simp; exact hK _ (gives_val)
  apply chain_eq (D := [(3, none), (8, some 0)]) rfl (by kernel_rfl)
  · intro ρ W4 ⟨p1, p2, p3⟩ hG hF K hK; (try simp [FactsD] at hF); have hD := Gr.tr (Gr.drew _) hG; go_simp; exact hK _ (gives_val)
  apply chain_eq (D := [(9, some 0)]) rfl (by kernel_rfl)
  · intro ρ W4 ⟨p1, p2, p3⟩ hG hF K hK; (try simp [FactsD] at hF); have hD := Gr.tr (Gr.drew _) hG; have z0 := (HB.out.grow hD).cell HA.out; go_simp; exact hK _ (gives_val)
  apply chain_eq (D := [(2, none)]) rfl (by kernel_rfl)
  · intro ρ W4 ⟨p1, p2, p3⟩ hG hF K hK; (try simp [FactsD] at hF); have hD := Gr.tr (Gr.drew _) hG; go_simp; exact hK _ (gives_val)
  apply chain_eq (D := [(11, some 0)]) rfl (by kernel_rfl)
  · intro ρ W4 ⟨p1, p2, p3⟩ hG hF K hK; (try simp [FactsD] at hF); have hD := Gr.tr (Gr.drew _) hG; go_simp; exact hK _ (gives_call (HC.out _))
  apply chain_eq (D := [(10, some 2), (12, some 0)]) rfl (by kernel_rfl)
  · intro ρ W4 ⟨p1, p2, p3⟩ hG hF K hK; (try simp [FactsD] at hF); have hD := Gr.tr (Gr.drew _) hG; go_simp; exact hK _ (gives_call (HN.out _))
  apply chain_eq (D := [(3, none), (7, some 6)]) rfl (by kernel_rfl)
  · intro ρ W4 ⟨p1, p2, p3⟩ hG hF K hK; (try simp [FactsD] at hF); have hD := Gr.tr (Gr.drew _) hG; go_simp; exact hK _ (gives_val)
  refine chain_done ?_
  intro vs W4 hG hV
  obtain ⟨e7, e6, -⟩ := hV
  simp only [Nat.reduceSub] at e6
  simp only [Nat.reduceSub] at e7
  simp only [lay, Act.put, List.getElem?_toArray, List.getElem?_cons_succ, List.getElem?_cons_zero, Option.bind_some, List.setIfInBounds_toArray, List.set_cons_succ, List.set_cons_zero]
  generalize vs 0 = v0
  generalize vs 1 = v1
  generalize vs 2 = v2
  generalize vs 3 = v3
  generalize vs 4 = v4
  generalize vs 5 = v5
  generalize vs 6 = v6 at *
  generalize vs 7 = v7 at *
  subst e6
  subst e7
  have HG := Lib.hid (show Gr _ W4 from hG)
  have HB4 := Lib.hid (HB.out.grow HG.out)
  have z0 := HB4.out.cell HA.out
  have f0 := HB4.out.free (i := i)
  have l0 := HB4.out.lt
  clear hG
  have HB5 := Lib.hid (show Box (W4.setCell ⟨w.heap.size, i, none⟩ (.int .i64 q)) w.heap.size (opts (onlM m i c)) 83 by rw [← HS.out]; exact HB4.out.put i _)
  have HZ5 := Lib.hid ((Only.set W4 i (.int .i64 q)).box (HZ.out.grow HG.out) (show w.heap.size + 1 ≠ w.heap.size by omega))
  have hO' := opts_len (onlM m i c)
  go_wp2_with (first
    | (with_reducible refine wpList_stopLoad (ty := 83) rfl ?_; unfold Stop; refine wpList_loadBox row83 hO' HB5.out rfl rfl rfl ?_)
    | (with_reducible refine wpList_stopStore (ty := 83) rfl ?_; unfold Stop; refine wpList_storeBox row83 hO' rfl (opts_one _) HZ5.out rfl rfl rfl rfl ?_))

  exact bodyPost_ret (v := .agg (opts (onlM m i c)).toArray) (result_row row83 hO' (HZ5.out.row (vs := opts (onlM m i c))) rfl rfl) rfl ⟨rfl, below_setRow ((bgr (((Below.refl _ _).alloc (by first | (simp; done) | (simp; omega) | omega) _).alloc (by first | (simp; done) | (simp; omega) | omega) _) (by first | (simp; done) | (simp; omega) | omega) HG.out).setCell (by first | (simp; done) | (simp; omega) | omega) _) (by first | (simp; done) | (simp; omega) | omega) _⟩

end Go.Proofs.Ytjlaoiimbhlafaa
