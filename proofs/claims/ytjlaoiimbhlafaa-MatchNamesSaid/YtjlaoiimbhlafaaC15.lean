import Derived.Test.YtjlaoiimbhlafaaC11
set_option linter.unusedVariables false
set_option linter.unusedSimpArgs false
namespace Go.Proofs.Ytjlaoiimbhlafaa
open Go.RowKit Go.Shelf

open MW
/-- All options of the left marks. -/
def allM (f : Nat → Nat → Bool) (nL nR : Nat) : Nat → Nat := fun i => if i < nL then 2 ^ 10 ||| gat (f i) nR else 0
def allTo (f : Nat → Nat → Bool) (nR n : Nat) : Nat → Nat := fun i => if i < n then 2 ^ 10 ||| gat (f i) nR else 0
theorem allTo_set (f : Nat → Nat → Bool) (nR n : Nat) : (opts (allTo f nR n)).set n (.int .i64 (2 ^ 10 ||| gat (f n) nR : Nat)) = opts (allTo f nR (n + 1)) := by
  rw [opts_set]
  congr 1
  funext j
  unfold allTo
  by_cases h : j = n
  · subst h
    rw [if_pos rfl, if_pos (by omega)]
  · rw [if_neg h]
    by_cases h2 : j < n
    · rw [if_pos h2, if_pos (by omega)]
    · rw [if_neg h2, if_neg (by omega)]
theorem allTo_zero (f : Nat → Nat → Bool) (nR : Nat) : opts (allTo f nR 0) = zero10 := rfl
set_option maxHeartbeats 1000000 in
theorem chosen_any (k : Lk) (i j bl bi : Nat) (w : World) (hi : i < 10) (hj : j < 10) (hb : Box w bl k.cs 85) (hbi : Box w bi [.int .i64 i] 3) :
    Calls Try.prog 122 #[.int .i64 j, .pointer (some ⟨bl, 0, none⟩), .pointer (some ⟨bi, 0, none⟩)] w fun e w' => e = .returned (.bool (k.fit i j)) ∧ Below w.heap.size w w' := by
  have c0 := hbi.cell (i := 0) rfl
  have cl := hbi.lt
  have c1 := hb.cell (k.fit_at hi hj)
  have cl1 := hb.lt
  have h1 : (i : Int) < 10 := by omega
  have h1' : decide ((i : Int) < 10) = true := by simp; omega
  have h2 : (j : Int) < 10 := by omega
  have h2' : decide ((j : Int) < 10) = true := by simp; omega
  have h3 : decide (i < 10) = true := by simp; omega
  have h4 : decide (j < 10) = true := by simp; omega
  have e5 : 5 + 10 * i + j = 5 + (10 * i + j) := by omega
  have e6 : 5 + i * 10 + j = 5 + (10 * i + j) := by omega
  clear hb hbi
  go_enter Try.func122, Try.ntmps122
  go_wp2
  go_ret
  exact ⟨rfl, Below.refl _ _⟩

set_option maxHeartbeats 2000000 in
theorem choose_any (k : Lk) (w : World) (hL : k.nL ≤ 10) (hR : k.nR ≤ 10) :
    Calls Try.prog 95 #[.agg k.cs.toArray] w fun e w' => e = .returned (.agg (opts (allM k.fit k.nL k.nR)).toArray) ∧ Below w.heap.size w w' := by
  have hl := k.cs_len
  have e0 : ∀ h : 0 < k.cs.length, k.cs[0] = .slice k.lp k.nL k.lc := fun _ => rfl
  have HB := Lib.hid (((Box.fresh w k.cs 85).grow (Gr.alloc _ (Obj.cells zero10.toArray 83))).grow (Gr.alloc _ (Obj.cells zero10.toArray 83)))
  have HZ := Lib.hid (show Box (((w.alloc (Obj.cells k.cs.toArray 85)).alloc (Obj.cells zero10.toArray 83)).alloc (Obj.cells zero10.toArray 83)) (w.heap.size + 1) zero10 83 by
    have := (Box.fresh (w.alloc (Obj.cells k.cs.toArray 85)) zero10 83).grow (Gr.alloc _ (Obj.cells zero10.toArray 83))
    simpa using this)
  have HO := Lib.hid (show Box (((w.alloc (Obj.cells k.cs.toArray 85)).alloc (Obj.cells zero10.toArray 83)).alloc (Obj.cells zero10.toArray 83)) (w.heap.size + 1 + 1) zero10 83 by
    have := Box.fresh ((w.alloc (Obj.cells k.cs.toArray 85)).alloc (Obj.cells zero10.toArray 83)) zero10 83
    simpa using this)
  have HW := Lib.hid (show Gr w (((w.alloc (Obj.cells k.cs.toArray 85)).alloc (Obj.cells zero10.toArray 83)).alloc (Obj.cells zero10.toArray 83)) from ((Gr.alloc _ _).tr (Gr.alloc _ _)).tr (Gr.alloc _ _))
  unfold zero10 at HB HZ HO HW
  go_enter Try.func95, Try.ntmps95
  go_wp2_with fail
  generalize hw1 : ((w.alloc (Obj.cells k.cs.toArray 85)).alloc (Obj.cells #[.int .i64 0, .int .i64 0, .int .i64 0, .int .i64 0, .int .i64 0, .int .i64 0, .int .i64 0, .int .i64 0, .int .i64 0, .int .i64 0] 83)).alloc (Obj.cells #[.int .i64 0, .int .i64 0, .int .i64 0, .int .i64 0, .int .i64 0, .int .i64 0, .int .i64 0, .int .i64 0, .int .i64 0, .int .i64 0] 83) = w1 at *
  have hs1 : w1.heap.size = w.heap.size + 1 + 1 + 1 := by rw [← hw1]; simp
  clear hw1 e0 hl
  go_loopw [10] (fun i wr => ∃ n : Nat, n ≤ k.nL ∧ i = .int .i64 n ∧ Hid (Box wr (w.heap.size + 1 + 1) (opts (allTo k.fit k.nR n)) 83) ∧ Hid (Only (w.heap.size + 1 + 1) w1 wr)) (fun i _ => (20 - intOf i).toNat)
  case atStart => exact ⟨0, by omega, rfl, Lib.hid (by rw [allTo_zero]; exact HO.out), Lib.hid (Only.of (by omega) (Gr.same _))⟩
  case round =>
    obtain ⟨n, hn, rfl, HX, HN⟩ := hrel
    by_cases hlt : n < k.nL
    · have hd : decide ((n : Int) < k.nL) = true := by simp; omega
      have hd' : decide (n < k.nL) = true := by simp; omega
      have h10 : (n : Int) < 10 := by omega
      have h10' : decide ((n : Int) < 10) = true := by simp; omega
      have h10'' : decide (n < 10) = true := by simp; omega
      have hsz := HN.out.size
      have HBr := Lib.hid (HN.out.box HB.out (show w.heap.size ≠ w.heap.size + 1 + 1 by omega))
      have z1 := HBr.out.cell k.c1
      have zl := HBr.out.lt
      have HS := Lib.hid (allTo_set k.fit k.nR n)
      have HBa := Lib.hid (HBr.out.grow (Gr.alloc _ (Obj.cells #[.int .i64 n] 3)))
      have HBi := Lib.hid (Box.fresh wr [.int .i64 n] 3)
      have HGA := Lib.hid (gatherF_any w.heap.size wr.heap.size k.nR (k.fit n) [w.heap.size, wr.heap.size] (wr.alloc (Obj.cells #[.int .i64 n] 3)) (by omega) (by simp; omega)
        (fun W' hK j hj => chosen_any k n j w.heap.size wr.heap.size W' (by omega) (by omega) (hK.box HBa.out (by simp)) (hK.box HBi.out (by simp))))
      have hg : gat (k.fit n) k.nR < 2048 := Nat.lt_of_lt_of_le (gat_lt _ _) (by have := Nat.pow_le_pow_right (n := 2) (by omega) (show k.nR ≤ 11 by omega); simpa using this)
      have HJ := Lib.hid (fun W g T hb => join_any (2 ^ 10) (gat (k.fit n) k.nR) g W T (by decide) hg hb)
      have HC := Lib.hid (fun W => setOf_any 10 W (by omega))
      clear hg
      generalize hq : (2 ^ 10 ||| gat (k.fit n) k.nR) = q at *
      generalize gat (k.fit n) k.nR = g at *
      generalize (2 ^ 10 : Nat) = p at *
      clear hq
      go_wp2_with (go_at_call 63; refine HGA.out.mono ?_; rintro e w2 ⟨rfl, hb2⟩; have HG2 := Lib.hid (Gr.tr (Gr.alloc _ _) hb2); have HI2 := Lib.hid (HBi.out.grow hb2); clear hb2)
      have HX2 := Lib.hid (HX.out.grow HG2.out)
      refine region2 6 ?_ ?_ ?_
      · kernel_rfl
      · kernel_rfl
      simp only [List.take_succ_cons, List.take_zero, List.drop_succ_cons, List.drop_zero]
      apply chain_eq (D := [(4, none)]) rfl (by kernel_rfl)
      · intro ρ W4 ⟨p1, p2, p3⟩ hG hF K hK; (try simp [FactsD] at hF); have hD := Gr.tr (Gr.drew _) hG; have z0 := (HI2.out.grow hD).cell (i := 0) rfl; go_simp; exact hK _ (gives_val)
      apply chain_eq (D := []) rfl (by kernel_rfl)
      · intro ρ W4 ⟨p1, p2, p3⟩ hG hF K hK; (try simp [FactsD] at hF); have hD := Gr.tr (Gr.drew _) hG; go_simp; exact hK _ (gives_call (HC.out _))
      apply chain_eq (D := [(5, none)]) rfl (by kernel_rfl)
      · intro ρ W4 ⟨p1, p2, p3⟩ hG hF K hK; (try simp [FactsD] at hF); have hD := Gr.tr (Gr.drew _) hG; go_simp; exact hK _ (gives_val)
      refine chain_any (V := Two p g) (D := [(20, some 1), (21, some 0)]) rfl (by kernel_rfl) (Two.lasts _ _) ?_ ?_
      · intro ρ W4 ⟨p1, p2, p3⟩ hG hF K hK; (try simp [FactsD] at hF); have hD := Gr.tr (Gr.drew _) hG; go_simp; exact hK _ (⟨⟨_, _, rfl, Box.fresh _ [.int .i64 (p : Int), .int .i64 (g : Int)] _⟩, Gr.alloc _ _⟩)
      refine chain_any (V := fun v _ => v = .int .i64 (q : Nat)) (D := [(22, some 0)]) rfl (by kernel_rfl) (Lasts.eq _) ?_ ?_
      · intro ρ W4 ⟨p1, p2, p3⟩ hG hF K hK; (try simp [FactsD] at hF); have hD := Gr.tr (Gr.drew _) hG; obtain ⟨b0, T, hg1, hg2⟩ := hF; go_simp; exact hK _ (gives_call (HJ.out _ _ _ hg2))
      apply chain_eq (D := [(3, none), (19, some 4)]) rfl (by kernel_rfl)
      · intro ρ W4 ⟨p1, p2, p3⟩ hG hF K hK; (try simp [FactsD] at hF); have hD := Gr.tr (Gr.drew _) hG; go_simp; exact hK _ (gives_val)
      refine chain_done ?_
      intro vs W4 hG hV
      obtain ⟨e5, e4, -⟩ := hV
      simp only [Nat.reduceSub] at e4 e5
      simp only [lay, Act.put, List.getElem?_toArray, List.getElem?_cons_succ, List.getElem?_cons_zero, Option.bind_some, List.setIfInBounds_toArray, List.set_cons_succ, List.set_cons_zero]
      generalize vs 0 = v0
      generalize vs 1 = v1
      generalize vs 2 = v2
      generalize vs 3 = v3
      generalize vs 4 = v4 at *
      generalize vs 5 = v5 at *
      subst e4
      subst e5
      have HX4 := Lib.hid (HX2.out.grow hG)
      have HG4 := Lib.hid (Gr.tr HG2.out hG)
      have z4 := HX4.out.cell (opts_at (allTo k.fit k.nR n) (show n < 10 by omega))
      have f4 := HX4.out.free (i := n)
      have l4 := HX4.out.lt
      clear hG
      go_wp2_with fail
      refine ⟨⟨n + 1, by omega, by go_num, Lib.hid ?_, Lib.hid ?_⟩, by simp [intOf]; omega⟩
      · rw [← HS.out]
        exact HX4.out.put n _
      · exact (HN.out.tr (Only.of (by omega) HG4.out)).tr (Only.set _ _ _)
    · have hn10 : n = k.nL := by omega
      subst hn10
      have hO' := opts_len (allM k.fit k.nL k.nR)
      have HZ5 := Lib.hid (HN.out.box HZ.out (by omega))
      replace HX : Hid (Box wr (w.heap.size + 1 + 1) (opts (allM k.fit k.nL k.nR)) 83) := HX
      have hd : decide ((k.nL : Int) < k.nL) = false := by simp
      clear hlt
      go_wp2_with (first
        | (with_reducible refine wpList_stopLoad (ty := 83) rfl ?_; unfold Stop; refine wpList_loadBox row83 hO' HX.out rfl rfl rfl ?_)
        | (with_reducible refine wpList_stopStore (ty := 83) rfl ?_; unfold Stop; refine wpList_storeBox row83 hO' rfl (opts_one _) HZ5.out rfl rfl rfl rfl ?_))
      exact bodyPost_ret (v := .agg (opts (allM k.fit k.nL k.nR)).toArray) (result_row row83 hO' (HZ5.out.row (vs := opts (allM k.fit k.nL k.nR))) rfl rfl) rfl ⟨rfl, below_setRow (HW.out.trans (Below.mono HN.out.low (by omega))) (by first | (simp; done) | (simp; omega) | omega) _⟩

end Go.Proofs.Ytjlaoiimbhlafaa
