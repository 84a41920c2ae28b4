import Derived.Test.YtjlaoiimbhlafaaC20
set_option linter.unusedVariables false
set_option linter.unusedSimpArgs false
namespace Go.Proofs.Ytjlaoiimbhlafaa
open Go.RowKit Go.Shelf

open MW
def enTo (f : Nat → Nat) (n : Nat) : En := ((List.range n).map fun c => (f c : Int)).foldl En.put ⟨0, 0, false⟩
theorem enTo_succ (f : Nat → Nat) (n : Nat) : enTo f (n + 1) = (enTo f n).put (f n) := by
  unfold enTo
  rw [List.range_succ, List.map_append, List.foldl_append]
  rfl
theorem enTo_is (f : Nat → Nat) : ∀ n, 0 < n → (enTo f n).s = true ∧ (enTo f n).b = (mxl f (List.range n) : Nat)
  | 0, h => absurd h (by omega)
  | 1, _ => by
    refine ⟨rfl, ?_⟩
    show (f 0 : Int) = ((if 0 < f 0 then f 0 else 0 : Nat) : Int)
    split <;> omega
  | n + 2, _ => by
    obtain ⟨h1, h2⟩ := enTo_is f (n + 1) (by omega)
    rw [enTo_succ]
    unfold En.put
    rw [if_pos h1]
    refine ⟨rfl, ?_⟩
    dsimp only
    rw [h2, List.range_succ (n := n + 1), mxl_snoc]
    unfold mxI
    split <;> split <;> omega
def Lk.lvs (k : Lk) (i : Nat) : Nat := mxl (k.spl i) (List.range 11)
set_option maxHeartbeats 1000000 in
theorem leaves_any (k : Lk) (i : Nat) (w : World) (hk : k.Ok) (hi : i < k.nL) :
    Calls Try.prog 73 #[.agg k.cs.toArray, .int .i64 i] w fun e w' => e = .returned (.int .i64 (k.lvs i)) ∧ Below w.heap.size w w' := by
  have HS := Lib.hid (fun W => split_any k i W hk hi)
  have HB := Lib.hid ((Box.fresh w k.cs 85).grow (Gr.alloc _ (Obj.cells #[.int .i64 0, .int .i64 0, .bool false] 105)))
  have HE := Lib.hid (show Box ((w.alloc (Obj.cells k.cs.toArray 85)).alloc (Obj.cells #[.int .i64 0, .int .i64 0, .bool false] 105)) (w.heap.size + 1) (enTo (k.spl i) 0).cs 105 by
    show Box _ _ [.int .i64 0, .int .i64 0, .bool false] 105
    have := Box.fresh (w.alloc (Obj.cells k.cs.toArray 85)) [.int .i64 0, .int .i64 0, .bool false] 105
    simpa using this)
  have HTK := Lib.hid (fun (e : En) (x : Int) (b : Nat) (W : World) (T : TypeId) (he : Box W (w.heap.size + 1) e.cs 105) (hb : Box W b [.int .i64 x] T) (hne : b ≠ w.heap.size + 1) => (show Calls Try.prog 70 #[.pointer (some ⟨w.heap.size + 1, 0, none⟩), .slice (some ⟨b, 0, none⟩) 1 1] W (fun r w' => r = .returned (.tuple #[]) ∧ Box w' (w.heap.size + 1) (e.put x).cs 105 ∧ Only (w.heap.size + 1) W w') from take_any (w.heap.size + 1) b 0 1 e [x] W he hb.lt hne (by simp) (fun j hj => by
    have hj0 : j = 0 := by simpa using hj
    subst hj0
    exact hb.cell (i := 0) rfl)))
  have HLV := Lib.hid (show (enTo (k.spl i) 11).b = (k.lvs i : Nat) from (enTo_is (k.spl i) 11 (by omega)).2)
  go_enter Try.func73, Try.ntmps73
  go_wp2_with (first | (with_reducible refine wpList_stopLoad (ty := 85) rfl ?_; unfold Stop; refine wpList_loadBox row85 k.cs_len (HB.out) rfl rfl rfl ?_) | (go_at_call 101; refine (HS.out _).mono ?_; rintro e w1 ⟨rfl, hb1⟩; have HE1 := Lib.hid (HE.out.grow hb1); have HT := Lib.hid (show Below w.heap.size w w1 from bgr (((Below.refl _ _).alloc (by first | (simp; done) | (simp; omega) | omega) _).alloc (by first | (simp; done) | (simp; omega) | omega) _) (by first | (simp; done) | (simp; omega) | omega) hb1); have hs1 := HE1.out.lt; clear hb1))
  clear HE HB
  go_loopw [11] (fun t wr => ∃ n : Nat, n ≤ 11 ∧ t = .int .i64 n ∧ Hid (Box wr (w.heap.size + 1) (enTo (k.spl i) n).cs 105) ∧ Hid (Only (w.heap.size + 1) w1 wr)) (fun t _ => (20 - intOf t).toNat)
  case atStart => exact ⟨0, by omega, rfl, HE1, Lib.hid (Only.of hs1 (Gr.same _))⟩
  case round =>
    obtain ⟨n, hn, rfl, HX, HO⟩ := hrel
    by_cases hlt : n < 11
    · have hd : decide ((n : Int) < 11) = true := by simp; omega
      have hd' : decide (n < 11) = true := by simp; omega
      have hix := idx153 (k.spl i) hlt wr
      have HSU := Lib.hid (enTo_succ (k.spl i) n)
      have hl := HX.out.lt
      generalize k.spl i n = x at *
      go_wp2_with (go_at_call 70; refine (HTK.out _ x wr.heap.size _ _ (HX.out.grow (Gr.alloc _ _)) (Box.fresh wr [.int .i64 x] _) (by omega)).mono ?_; rintro e w3 ⟨rfl, hb3, ho3⟩)
      refine ⟨⟨n + 1, by omega, by go_num, Lib.hid ?_, Lib.hid ?_⟩, by simp [intOf]; omega⟩
      · rw [HSU.out]
        exact hb3
      · exact (HO.out.tr (Only.of hl (Gr.alloc _ _))).tr ho3
    · have hnn : n = 11 := by omega
      subst hnn
      have z1 : wr.cell? ⟨w.heap.size + 1, 1, none⟩ = some (.int .i64 (k.lvs i)) := by
        rw [HX.out.cell (i := 1) (x := .int .i64 (enTo (k.spl i) 11).b) rfl, HLV.out]
      have l1 := HX.out.lt
      clear hlt
      go_wp2_with fail
      go_ret
      exact ⟨rfl, HT.out.trans (Below.mono HO.out.low (by omega))⟩

end Go.Proofs.Ytjlaoiimbhlafaa
