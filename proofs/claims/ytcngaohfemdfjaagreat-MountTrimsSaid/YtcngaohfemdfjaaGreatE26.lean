import Derived.Test.YtcngaohfemdfjaaGreatE21
import Derived.Test.YtcngaohfemdfjaaGreatE23
set_option linter.unusedVariables false
set_option linter.unusedSimpArgs false
set_option maxRecDepth 100000
set_option maxHeartbeats 60000000
namespace Go.Proofs.YtcngaohfemdfjaaGreat
open Go.RowKit
theorem Only.row {g : Nat} (w : World) (cs : Array Value) : Only g w (w.setRow g cs) := ⟨below_setRow (Below.refl _ _) (Nat.le_refl _) _, by simp [World.setRow], fun k hk _ => setRow_other w g k cs hk⟩
theorem store_look (w : World) (vs : List Value) (hl : vs.length = 18) (h1 : vs.all (·.oneCell') = true) : ∃ W, (storeCells ⟨w.heap.size, 0, none⟩ vs).run Tryz.prog (w.alloc (Obj.cells #[.int .i64 0, .int .i64 0, .int .i64 0, .int .i64 0, .int .i64 0, .int .i64 0, .int .i64 0, .slice none 0 0, .int .i64 0, .int .i64 0, .int .i64 0, .int .i64 0, .int .i64 0, .int .i64 0, .int .i64 0, .int .i64 0, .int .i64 0, .map none] 71)) = .ok () W ∧ Box W w.heap.size vs 71 ∧ Gr w W :=
  ⟨_, run_storeBox (Box.fresh w Cd.zero 71) hl.symm h1, (Box.fresh w Cd.zero 71).row, Only.gr (Only.row _ _) (Gr.alloc _ _) (Nat.le_refl _)⟩
theorem Room_no (k : Cd) (u : Cu) (w : World) (hT : TsA k.p.l (.slice k.sp k.p.l.length k.cap) w) {x : Int} (hx : k.err [u] = x) (h : x ≠ 0) :
    Calls Tryz.prog 20 #[.agg k.cs.toArray, u.val] w fun e w' => e = .returned (.tuple #[.agg #[.int .i64 0, .int .i64 0], .int .i64 x]) ∧ Below w.heap.size w w' := by
  have HL := Lib.hid (fun cb W (hb : Below w.heap.size w W) hg => look1_no k cb u W (hT.below rfl hb) hg hx h)
  have h0 := h
  clear hT hx h
  have hl : k.cs.length = 17 := rfl
  have HB := Lib.hid (show Box (((w.alloc (Obj.cells k.cs.toArray 28)).alloc (Obj.cells #[.int .i64 u.a, .int .i64 u.b, .int .i64 u.c, .int .i64 u.d] 30)).alloc (Obj.cells #[.int .i64 0, .int .i64 0] 23)) w.heap.size k.cs 28 from (Box.fresh w k.cs 28).grow ((Gr.alloc _ _).tr (Gr.alloc _ _)))
  have HZ := Lib.hid (Box.fresh ((w.alloc (Obj.cells k.cs.toArray 28)).alloc (Obj.cells #[.int .i64 u.a, .int .i64 u.b, .int .i64 u.c, .int .i64 u.d] 30)) [.int .i64 0, .int .i64 0] 23)
  have HU := Lib.hid ((Box.fresh (w.alloc (Obj.cells k.cs.toArray 28)) [.int .i64 u.a, .int .i64 u.b, .int .i64 u.c, .int .i64 u.d] 30).grow (Gr.alloc _ (Obj.cells #[.int .i64 0, .int .i64 0] 23)))
  unfold Cu.val
  go_enter Tryz.func20, Tryz.ntmps20
  go_wp2_with (first | (with_reducible refine wsl (ty := 28) rfl ?_; unfold Stop; refine wlb row28 rfl (HB.out) rfl rfl rfl ?_))
  refine (HL.out _ _ ((((Gr.alloc _ _).tr (Gr.alloc _ _)).tr (Gr.alloc _ _)).tr (Gr.alloc _ _)) (by simpa using Box.fresh (((w.alloc (Obj.cells k.cs.toArray 28)).alloc (Obj.cells #[.int .i64 u.a, .int .i64 u.b, .int .i64 u.c, .int .i64 u.d] 30)).alloc (Obj.cells #[.int .i64 0, .int .i64 0] 23)) [.int .i64 u.a, .int .i64 u.b, .int .i64 u.c, .int .i64 u.d] 30)).mono ?_
  rintro e w1 ⟨rfl, hb1⟩
  have hz1 : Box w1 (w.heap.size + 1 + 1) [.int .i64 0, .int .i64 0] 23 := by simpa using (HZ.out.grow (Gr.alloc _ _)).grow hb1
  have hu1 : Box w1 (w.heap.size + 1) [.int .i64 u.a, .int .i64 u.b, .int .i64 u.c, .int .i64 u.d] 30 := by simpa using (HU.out.grow (Gr.alloc _ _)).grow hb1
  have hg1 : Gr w w1 := ((((Gr.alloc _ _).tr (Gr.alloc _ _)).tr (Gr.alloc _ _)).tr (Gr.alloc _ _)).tr hb1
  have hs1 := hz1.lt
  clear hb1
  obtain ⟨W2, hst, hB2, hg2⟩ := store_look w1 Cd.zero rfl zero_one
  have hz2 := hz1.grow hg2
  have hu2 := hu1.grow hg2
  have z0 := hz2.cell (i := 0) rfl
  have z1 := hz2.cell (i := 1) rfl
  have zf := hz2.free
  have zl := hz2.lt
  have HG := Lib.hid (hg1.tr hg2)
  clear hz1 hu1 hg1 hz2 hu2 hg2 hB2
  go_wp2
  exact bodyPost_ret (v := .tuple #[.agg #[.int .i64 0, .int .i64 0], .int .i64 x]) (by simp [results, Tryz.results20, go_sem, z0, z1, zf, zl]) rfl ⟨rfl, ((HG.out).setCell (by first | (simp <;> omega) | omega) _).setCell (by first | (simp <;> omega) | omega) _⟩
theorem Eyes_no (k : Cd) (u : Cu) (w : World) (hT : TsA k.p.l (.slice k.sp k.p.l.length k.cap) w) {x : Int} (hx : k.err [u] = x) (h : x ≠ 0) :
    Calls Tryz.prog 18 #[.agg k.cs.toArray, u.val] w fun e w' => e = .returned (.tuple #[.agg #[.int .i64 0, .int .i64 0], .int .i64 x]) ∧ Below w.heap.size w w' := by
  have HL := Lib.hid (fun cb W (hb : Below w.heap.size w W) hg => look1_no k cb u W (hT.below rfl hb) hg hx h)
  have h0 := h
  clear hT hx h
  have hl : k.cs.length = 17 := rfl
  have HB := Lib.hid (show Box (((w.alloc (Obj.cells k.cs.toArray 28)).alloc (Obj.cells #[.int .i64 u.a, .int .i64 u.b, .int .i64 u.c, .int .i64 u.d] 30)).alloc (Obj.cells #[.int .i64 0, .int .i64 0] 23)) w.heap.size k.cs 28 from (Box.fresh w k.cs 28).grow ((Gr.alloc _ _).tr (Gr.alloc _ _)))
  have HZ := Lib.hid (Box.fresh ((w.alloc (Obj.cells k.cs.toArray 28)).alloc (Obj.cells #[.int .i64 u.a, .int .i64 u.b, .int .i64 u.c, .int .i64 u.d] 30)) [.int .i64 0, .int .i64 0] 23)
  have HU := Lib.hid ((Box.fresh (w.alloc (Obj.cells k.cs.toArray 28)) [.int .i64 u.a, .int .i64 u.b, .int .i64 u.c, .int .i64 u.d] 30).grow (Gr.alloc _ (Obj.cells #[.int .i64 0, .int .i64 0] 23)))
  unfold Cu.val
  go_enter Tryz.func18, Tryz.ntmps18
  go_wp2_with (first | (with_reducible refine wsl (ty := 28) rfl ?_; unfold Stop; refine wlb row28 rfl (HB.out) rfl rfl rfl ?_))
  refine (HL.out _ _ ((((Gr.alloc _ _).tr (Gr.alloc _ _)).tr (Gr.alloc _ _)).tr (Gr.alloc _ _)) (by simpa using Box.fresh (((w.alloc (Obj.cells k.cs.toArray 28)).alloc (Obj.cells #[.int .i64 u.a, .int .i64 u.b, .int .i64 u.c, .int .i64 u.d] 30)).alloc (Obj.cells #[.int .i64 0, .int .i64 0] 23)) [.int .i64 u.a, .int .i64 u.b, .int .i64 u.c, .int .i64 u.d] 30)).mono ?_
  rintro e w1 ⟨rfl, hb1⟩
  have hz1 : Box w1 (w.heap.size + 1 + 1) [.int .i64 0, .int .i64 0] 23 := by simpa using (HZ.out.grow (Gr.alloc _ _)).grow hb1
  have hu1 : Box w1 (w.heap.size + 1) [.int .i64 u.a, .int .i64 u.b, .int .i64 u.c, .int .i64 u.d] 30 := by simpa using (HU.out.grow (Gr.alloc _ _)).grow hb1
  have hg1 : Gr w w1 := ((((Gr.alloc _ _).tr (Gr.alloc _ _)).tr (Gr.alloc _ _)).tr (Gr.alloc _ _)).tr hb1
  have hs1 := hz1.lt
  clear hb1
  obtain ⟨W2, hst, hB2, hg2⟩ := store_look w1 Cd.zero rfl zero_one
  have hz2 := hz1.grow hg2
  have hu2 := hu1.grow hg2
  have z0 := hz2.cell (i := 0) rfl
  have z1 := hz2.cell (i := 1) rfl
  have zf := hz2.free
  have zl := hz2.lt
  have HG := Lib.hid (hg1.tr hg2)
  clear hz1 hu1 hg1 hz2 hu2 hg2 hB2
  go_wp2
  exact bodyPost_ret (v := .tuple #[.agg #[.int .i64 0, .int .i64 0], .int .i64 x]) (by simp [results, Tryz.results18, go_sem, z0, z1, zf, zl]) rfl ⟨rfl, ((HG.out).setCell (by first | (simp <;> omega) | omega) _).setCell (by first | (simp <;> omega) | omega) _⟩
theorem Depths_no (k : Cd) (u : Cu) (w : World) (hT : TsA k.p.l (.slice k.sp k.p.l.length k.cap) w) {x : Int} (hx : k.err [u] = x) (h : x ≠ 0) :
    Calls Tryz.prog 22 #[.agg k.cs.toArray, u.val] w fun e w' => e = .returned (.tuple #[.agg #[.int .i64 0, .int .i64 0], .int .i64 x]) ∧ Below w.heap.size w w' := by
  have HL := Lib.hid (fun cb W (hb : Below w.heap.size w W) hg => look1_no k cb u W (hT.below rfl hb) hg hx h)
  have h0 := h
  clear hT hx h
  have hl : k.cs.length = 17 := rfl
  have HB := Lib.hid (show Box (((w.alloc (Obj.cells k.cs.toArray 28)).alloc (Obj.cells #[.int .i64 u.a, .int .i64 u.b, .int .i64 u.c, .int .i64 u.d] 30)).alloc (Obj.cells #[.int .i64 0, .int .i64 0] 23)) w.heap.size k.cs 28 from (Box.fresh w k.cs 28).grow ((Gr.alloc _ _).tr (Gr.alloc _ _)))
  have HZ := Lib.hid (Box.fresh ((w.alloc (Obj.cells k.cs.toArray 28)).alloc (Obj.cells #[.int .i64 u.a, .int .i64 u.b, .int .i64 u.c, .int .i64 u.d] 30)) [.int .i64 0, .int .i64 0] 23)
  have HU := Lib.hid ((Box.fresh (w.alloc (Obj.cells k.cs.toArray 28)) [.int .i64 u.a, .int .i64 u.b, .int .i64 u.c, .int .i64 u.d] 30).grow (Gr.alloc _ (Obj.cells #[.int .i64 0, .int .i64 0] 23)))
  unfold Cu.val
  go_enter Tryz.func22, Tryz.ntmps22
  go_wp2_with (first | (with_reducible refine wsl (ty := 28) rfl ?_; unfold Stop; refine wlb row28 rfl (HB.out) rfl rfl rfl ?_))
  refine (HL.out _ _ ((((Gr.alloc _ _).tr (Gr.alloc _ _)).tr (Gr.alloc _ _)).tr (Gr.alloc _ _)) (by simpa using Box.fresh (((w.alloc (Obj.cells k.cs.toArray 28)).alloc (Obj.cells #[.int .i64 u.a, .int .i64 u.b, .int .i64 u.c, .int .i64 u.d] 30)).alloc (Obj.cells #[.int .i64 0, .int .i64 0] 23)) [.int .i64 u.a, .int .i64 u.b, .int .i64 u.c, .int .i64 u.d] 30)).mono ?_
  rintro e w1 ⟨rfl, hb1⟩
  have hz1 : Box w1 (w.heap.size + 1 + 1) [.int .i64 0, .int .i64 0] 23 := by simpa using (HZ.out.grow (Gr.alloc _ _)).grow hb1
  have hu1 : Box w1 (w.heap.size + 1) [.int .i64 u.a, .int .i64 u.b, .int .i64 u.c, .int .i64 u.d] 30 := by simpa using (HU.out.grow (Gr.alloc _ _)).grow hb1
  have hg1 : Gr w w1 := ((((Gr.alloc _ _).tr (Gr.alloc _ _)).tr (Gr.alloc _ _)).tr (Gr.alloc _ _)).tr hb1
  have hs1 := hz1.lt
  clear hb1
  obtain ⟨W2, hst, hB2, hg2⟩ := store_look w1 Cd.zero rfl zero_one
  have hz2 := hz1.grow hg2
  have hu2 := hu1.grow hg2
  have z0 := hz2.cell (i := 0) rfl
  have z1 := hz2.cell (i := 1) rfl
  have zf := hz2.free
  have zl := hz2.lt
  have HG := Lib.hid (hg1.tr hg2)
  clear hz1 hu1 hg1 hz2 hu2 hg2 hB2
  go_wp2
  exact bodyPost_ret (v := .tuple #[.agg #[.int .i64 0, .int .i64 0], .int .i64 x]) (by simp [results, Tryz.results22, go_sem, z0, z1, zf, zl]) rfl ⟨rfl, ((HG.out).setCell (by first | (simp <;> omega) | omega) _).setCell (by first | (simp <;> omega) | omega) _⟩
theorem Room_ok (k : Cd) (u : Cu) (w : World) (hT : TsA k.p.l (.slice k.sp k.p.l.length k.cap) w) (h : k.err [u] = 0) {x y er : Int} (hr : (⟨k, 0, u⟩ : Tm).room = (x, y, er)) :
    Calls Tryz.prog 20 #[.agg k.cs.toArray, u.val] w fun e w' => e = .returned (.tuple #[.agg #[.int .i64 x, .int .i64 y], .int .i64 er]) ∧ Below w.heap.size w w' := by
  have HL := Lib.hid (fun cb W (hb : Below w.heap.size w W) hg => look1_ok k cb u W (hT.below rfl hb) hg h)
  have HOK := Lib.hid (fun mb => tm_ok (k := k) (mb := mb) (u := u) (Cd.err_zero h).2.1 ((Cd.err_zero h).2.2.1 u (by simp)))
  clear hT h
  have hl : k.cs.length = 17 := rfl
  have HB := Lib.hid (show Box (((w.alloc (Obj.cells k.cs.toArray 28)).alloc (Obj.cells #[.int .i64 u.a, .int .i64 u.b, .int .i64 u.c, .int .i64 u.d] 30)).alloc (Obj.cells #[.int .i64 0, .int .i64 0] 23)) w.heap.size k.cs 28 from (Box.fresh w k.cs 28).grow ((Gr.alloc _ _).tr (Gr.alloc _ _)))
  have HZ := Lib.hid (Box.fresh ((w.alloc (Obj.cells k.cs.toArray 28)).alloc (Obj.cells #[.int .i64 u.a, .int .i64 u.b, .int .i64 u.c, .int .i64 u.d] 30)) [.int .i64 0, .int .i64 0] 23)
  have HU := Lib.hid ((Box.fresh (w.alloc (Obj.cells k.cs.toArray 28)) [.int .i64 u.a, .int .i64 u.b, .int .i64 u.c, .int .i64 u.d] 30).grow (Gr.alloc _ (Obj.cells #[.int .i64 0, .int .i64 0] 23)))
  unfold Cu.val
  go_enter Tryz.func20, Tryz.ntmps20
  go_wp2_with (first | (with_reducible refine wsl (ty := 28) rfl ?_; unfold Stop; refine wlb row28 rfl (HB.out) rfl rfl rfl ?_))
  refine (HL.out _ _ ((((Gr.alloc _ _).tr (Gr.alloc _ _)).tr (Gr.alloc _ _)).tr (Gr.alloc _ _)) (by simpa using Box.fresh (((w.alloc (Obj.cells k.cs.toArray 28)).alloc (Obj.cells #[.int .i64 u.a, .int .i64 u.b, .int .i64 u.c, .int .i64 u.d] 30)).alloc (Obj.cells #[.int .i64 0, .int .i64 0] 23)) [.int .i64 u.a, .int .i64 u.b, .int .i64 u.c, .int .i64 u.d] 30)).mono ?_
  rintro e w1 ⟨mb, rfl, hmb, hM, hb1⟩
  have hz1 : Box w1 (w.heap.size + 1 + 1) [.int .i64 0, .int .i64 0] 23 := by simpa using (HZ.out.grow (Gr.alloc _ _)).grow hb1
  have hu1 : Box w1 (w.heap.size + 1) [.int .i64 u.a, .int .i64 u.b, .int .i64 u.c, .int .i64 u.d] 30 := by simpa using (HU.out.grow (Gr.alloc _ _)).grow hb1
  have hg1 : Gr w w1 := ((((Gr.alloc _ _).tr (Gr.alloc _ _)).tr (Gr.alloc _ _)).tr (Gr.alloc _ _)).tr hb1
  have hs1 := hz1.lt
  clear hb1
  obtain ⟨W2, hst, hB2, hg2⟩ := store_look w1 (k.lk mb) rfl (lk_one k mb)
  have h18 : (k.lk mb).length = 18 := rfl
  have hz2 := hz1.grow hg2
  have hu2 := hu1.grow hg2
  have z0 := hz2.cell (i := 0) rfl
  have z1 := hz2.cell (i := 1) rfl
  have zf := hz2.free
  have zl := hz2.lt
  have u0 := hu2.cell (i := 0) rfl
  have u1 := hu2.cell (i := 1) rfl
  have u2 := hu2.cell (i := 2) rfl
  have u3 := hu2.cell (i := 3) rfl
  have ul := hu2.lt
  have HG := Lib.hid (hg1.tr hg2)
  have HM := Lib.hid (hM.grow hg2)
  have HLK := Lib.hid hB2
  have HR := Lib.hid hr
  clear hz1 hu1 hg1 hg2 hB2 hM hr
  go_wp2_with (first | (with_reducible refine wsl (ty := 71) rfl ?_; unfold Stop; refine wlb row71 rfl (HLK.out) rfl rfl rfl ?_))
  refine (with_any' ⟨k, mb, u⟩ _).mono ?_
  rintro e3 w3 ⟨rfl, hb3⟩
  have hz3 := hz2.grow hb3
  have HG3 := Lib.hid (HG.out.tr hb3)
  clear hz2 hu2 hb3 z0 z1 zf zl u0 u1 u2 u3 ul
  go_wp2_with fail
  refine (room_is ⟨k, mb, u⟩ (HOK.out mb) HR.out _).mono ?_
  rintro e4 w4 ⟨rfl, hb4⟩
  have hz4 := hz3.grow hb4
  have z0 := hz4.cell (i := 0) rfl
  have z1 := hz4.cell (i := 1) rfl
  have zf := hz4.free
  have zl := hz4.lt
  have HG4 := Lib.hid (HG3.out.tr hb4)
  clear hz3 hz4 hb4
  go_wp2
  exact bodyPost_ret (v := .tuple #[.agg #[.int .i64 x, .int .i64 y], .int .i64 er]) (by simp [results, Tryz.results20, go_sem, z0, z1, zf, zl]) rfl ⟨rfl, ((HG4.out).setCell (by first | (simp <;> omega) | omega) _).setCell (by first | (simp <;> omega) | omega) _⟩
end Go.Proofs.YtcngaohfemdfjaaGreat
