import Derived.Test.YtjlaoiimbhlafaaC9
set_option linter.unusedVariables false
set_option linter.unusedSimpArgs false
namespace Go.Proofs.Ytjlaoiimbhlafaa
open Go.RowKit Go.Shelf

open MW
theorem opts_congr {m m' : Nat → Nat} (h : ∀ j, j < 10 → m j = m' j) : opts m = opts m' := by
  unfold opts
  exact List.map_congr_left fun j hj => by rw [h j (List.mem_range.1 hj)]
def woTo (m : Nat → Nat) (c n : Nat) : Nat → Nat := fun j => if j < n then cl (m j) c else m j
theorem woTo_set (m : Nat → Nat) (c n : Nat) : (opts (woTo m c n)).set n (.int .i64 (cl (m n) c : Nat)) = opts (woTo m c (n + 1)) := by
  rw [opts_set]
  congr 1
  funext j
  unfold woTo
  by_cases h : j = n
  · subst h
    rw [if_pos rfl, if_pos (by omega)]
  · rw [if_neg h]
    by_cases h2 : j < n
    · rw [if_pos h2, if_pos (by omega)]
    · rw [if_neg h2, if_neg (by omega)]
set_option maxHeartbeats 1000000 in
theorem without_any (m : Nat → Nat) (c : Nat) (w : World) (hc : c ≤ 10) (hm : ∀ i, m i < 2048) :
    Calls Try.prog 106 #[.agg (opts m).toArray, .int .i64 c] w fun e w' => e = .returned (.agg (opts (woM m c)).toArray) ∧ Below w.heap.size w w' := by
  have hO := opts_len m
  have HM := Lib.hid hm
  have HB := Lib.hid ((Box.fresh w (opts m) 83).grow (Gr.alloc _ (Obj.cells zero10.toArray 83)))
  have HZ := Lib.hid (show Box ((w.alloc (Obj.cells (opts m).toArray 83)).alloc (Obj.cells zero10.toArray 83)) (w.heap.size + 1) zero10 83 by
    have := Box.fresh (w.alloc (Obj.cells (opts m).toArray 83)) zero10 83
    simpa using this)
  have HC := Lib.hid (fun W => setOf_any c W hc)
  have HN := Lib.hid (fun i W => minus_any (m i) c W (hm i) hc)
  have HW := Lib.hid (show Gr w ((w.alloc (Obj.cells (opts m).toArray 83)).alloc (Obj.cells zero10.toArray 83)) from (Gr.alloc _ _).tr (Gr.alloc _ _))
  unfold zero10 at HB HZ HW
  generalize hp : ((2 ^ c : Nat) : Int) = p at *
  clear hm hp
  go_enter Try.func106, Try.ntmps106
  go_wp2_with (with_reducible refine wpList_stopLoad (ty := 83) rfl ?_; unfold Stop; refine wpList_loadBox row83 hO HB.out rfl rfl rfl ?_)
  generalize hw1 : (w.alloc (Obj.cells (opts m).toArray 83)).alloc (Obj.cells #[.int .i64 0, .int .i64 0, .int .i64 0, .int .i64 0, .int .i64 0, .int .i64 0, .int .i64 0, .int .i64 0, .int .i64 0, .int .i64 0] 83) = w1 at *
  have hs1 : w1.heap.size = w.heap.size + 1 + 1 := by rw [← hw1]; simp
  clear hw1
  go_loopw [8] (fun i wr => ∃ n : Nat, n ≤ 10 ∧ i = .int .i64 n ∧ Hid (Box wr w.heap.size (opts (woTo m c n)) 83) ∧ Hid (Only w.heap.size w1 wr)) (fun i _ => (20 - intOf i).toNat)
  case atStart => exact ⟨0, by omega, rfl, Lib.hid (by rw [show woTo m c 0 = m from by funext j; unfold woTo; rw [if_neg (by omega)]]; exact HB.out), Lib.hid (Only.of (by omega) (Gr.same _))⟩
  case round =>
    obtain ⟨n, hn, rfl, HX, HO⟩ := hrel
    by_cases hlt : n < 10
    · have hd : decide ((n : Int) < 10) = true := by simp; omega
      have hd' : decide (n < 10) = true := by simp; omega
      have hix := idx83 m hlt wr
      have HS := Lib.hid (woTo_set m c n)
      have l0 := HX.out.lt
      have f0 := HX.out.free (i := n)
      have HA := Lib.hid (opts_at (woTo m c n) hlt)
      generalize hq : ((cl (m n) c : Nat) : Int) = q at *
      have HN' := Lib.hid (fun W => HN.out n W)
      rw [hq] at HN'
      clear hq
      have hcl := HO.out.size
      go_wp2_with (first | (go_at_call 105; refine (HC.out _).mono ?_; rintro e w2 ⟨rfl, hb2⟩) | (go_at_call 124; refine (HN'.out _).mono ?_; rintro e w3 ⟨rfl, hb3⟩; have HG := Lib.hid (Gr.tr (show Gr wr w2 from hb2) hb3); clear hb2 hb3; have z0 := (HX.out.grow HG.out).cell HA.out; have l3 := (HX.out.grow HG.out).lt; have f3 := (HX.out.grow HG.out).free (i := n)))
      refine ⟨⟨n + 1, by omega, by go_num, Lib.hid ?_, Lib.hid ?_⟩, by simp [intOf]; omega⟩
      · rw [← HS.out]
        exact (HX.out.grow HG.out).put n _
      · exact (HO.out.tr (Only.of (by omega) HG.out)).tr (Only.set _ _ _)
    · have hn10 : n = 10 := by omega
      subst hn10
      have he : opts (woTo m c 10) = opts (woM m c) := opts_congr fun j hj => by unfold woTo woM; rw [if_pos hj]
      rw [he] at HX
      have hO' := opts_len (woM m c)
      have HZ5 := Lib.hid (HO.out.box HZ.out (by omega))
      clear hlt he
      go_wp2_with (first
        | (with_reducible refine wpList_stopLoad (ty := 83) rfl ?_; unfold Stop; refine wpList_loadBox row83 hO' HX.out rfl rfl rfl ?_)
        | (with_reducible refine wpList_stopStore (ty := 83) rfl ?_; unfold Stop; refine wpList_storeBox row83 hO' rfl (opts_one _) HZ5.out rfl rfl rfl rfl ?_))
      exact bodyPost_ret (v := .agg (opts (woM m c)).toArray) (result_row row83 hO' (HZ5.out.row (vs := opts (woM m c))) rfl rfl) rfl ⟨rfl, below_setRow ((HW.out.trans HO.out.low)) (by first | (simp; done) | (simp; omega) | omega) _⟩

end Go.Proofs.Ytjlaoiimbhlafaa
