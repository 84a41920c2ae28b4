import Derived.Test.YtcngaohfemdfjaaGreatE26
set_option linter.unusedVariables false
set_option linter.unusedSimpArgs false
set_option maxRecDepth 100000
set_option maxHeartbeats 60000000
namespace Go.Proofs.YtcngaohfemdfjaaGreat
open Go.RowKit
theorem Pr.view_ok {p : Pr} (h : p.ok = true) {n : Nat} {x : Vw} (hx : p.view n = some x) : x.ok := by
  have hb := p.bounds h
  unfold Pr.view at hx
  cases ht : p.l[n]? with
  | none => rw [ht] at hx; cases hx
  | some t =>
    rw [ht] at hx
    have hs : p.seen[n]? = some (t.see p.ti p.ne p.fa) := by simp [Pr.seen, seenOf, ht]
    rw [hs] at hx
    dsimp only at hx
    split at hx
    · cases hx
      have hk := (hb.things t (List.mem_of_getElem? ht)).1
      obtain ⟨ha, hb', -, -, he, hf, -, -⟩ := hk
      unfold inPlate at ha hb' he hf
      exact ⟨by dsimp only; omega, by dsimp only; omega, by dsimp only; omega, by dsimp only; omega, by simp only [Th.see]; omega, by simp only [Th.see]; omega⟩
    · cases hx
theorem Pr.sees_ok {p : Pr} (h : p.ok = true) : ∀ q ∈ p.sees, q.2.ok := fun q hq => by
  obtain ⟨n, -, -, hv⟩ := mem_seesTo hq
  exact Pr.view_ok h hv
theorem Pr.len_ok {p : Pr} (h : p.ok = true) : p.l.length ≤ 900 := by have := (p.bounds h).len; omega
theorem Depths_none (k : Cd) (u : Cu) (w : World) (hT : TsA k.p.l (.slice k.sp k.p.l.length k.cap) w) (h : k.err [u] = 0) {x y er : Int} (hr : (⟨k, 0, u⟩ : Tm).room = (x, y, er)) (he : er ≠ 0) :
    Calls Tryz.prog 22 #[.agg k.cs.toArray, u.val] w fun e w' => e = .returned (.tuple #[.agg #[.int .i64 0, .int .i64 0], .int .i64 er]) ∧ Below w.heap.size w w' := by
  have h0 := h
  have HT := Lib.hid (fun (W : World) (hb : Below w.heap.size w W) => hT.below rfl hb)
  have HL := Lib.hid (fun cb W (hb : Below w.heap.size w W) hg => look1_ok k cb u W (hT.below rfl hb) hg h)
  have HOK := Lib.hid (fun mb => tm_ok (k := k) (mb := mb) (u := u) (Cd.err_zero h).2.1 ((Cd.err_zero h).2.2.1 u (by simp)))
  clear hT h
  have hl : k.cs.length = 17 := rfl
  have HB := Lib.hid (show Box (((w.alloc (Obj.cells k.cs.toArray 28)).alloc (Obj.cells #[.int .i64 u.a, .int .i64 u.b, .int .i64 u.c, .int .i64 u.d] 30)).alloc (Obj.cells #[.int .i64 0, .int .i64 0] 23)) w.heap.size k.cs 28 from (Box.fresh w k.cs 28).grow ((Gr.alloc _ _).tr (Gr.alloc _ _)))
  have HZ := Lib.hid (Box.fresh ((w.alloc (Obj.cells k.cs.toArray 28)).alloc (Obj.cells #[.int .i64 u.a, .int .i64 u.b, .int .i64 u.c, .int .i64 u.d] 30)) [.int .i64 0, .int .i64 0] 23)
  have HU := Lib.hid ((Box.fresh (w.alloc (Obj.cells k.cs.toArray 28)) [.int .i64 u.a, .int .i64 u.b, .int .i64 u.c, .int .i64 u.d] 30).grow (Gr.alloc _ (Obj.cells #[.int .i64 0, .int .i64 0] 23)))
  unfold Cu.val
  go_enter Tryz.func22, Tryz.ntmps22
  go_wp2_with (first | (with_reducible refine wsl (ty := 28) rfl ?_; unfold Stop; refine wlb row28 rfl (HB.out) rfl rfl rfl ?_))
  refine (HL.out _ _ ((((Gr.alloc _ _).tr (Gr.alloc _ _)).tr (Gr.alloc _ _)).tr (Gr.alloc _ _)) (by simpa using Box.fresh (((w.alloc (Obj.cells k.cs.toArray 28)).alloc (Obj.cells #[.int .i64 u.a, .int .i64 u.b, .int .i64 u.c, .int .i64 u.d] 30)).alloc (Obj.cells #[.int .i64 0, .int .i64 0] 23)) [.int .i64 u.a, .int .i64 u.b, .int .i64 u.c, .int .i64 u.d] 30)).mono ?_
  rintro e w1 ⟨mb, rfl, hmb, hM, hb1⟩
  have hz1 : Box w1 (w.heap.size + 1 + 1) [.int .i64 0, .int .i64 0] 23 := by simpa using (HZ.out.grow (Gr.alloc _ _)).grow hb1
  have hu1 : Box w1 (w.heap.size + 1) [.int .i64 u.a, .int .i64 u.b, .int .i64 u.c, .int .i64 u.d] 30 := by simpa using (HU.out.grow (Gr.alloc _ _)).grow hb1
  have hg1 : Gr w w1 := ((((Gr.alloc _ _).tr (Gr.alloc _ _)).tr (Gr.alloc _ _)).tr (Gr.alloc _ _)).tr hb1
  have hs1 := hz1.lt
  clear hb1
  obtain ⟨W2, hst, hB2, hg2⟩ := store_look w1 (k.lk mb) rfl (lk_one k mb)
  have h18 : (k.lk mb).length = 18 := rfl
  have hz2 := hz1.grow hg2
  have hu2 := hu1.grow hg2
  have z0 := hz2.cell (i := 0) rfl
  have z1 := hz2.cell (i := 1) rfl
  have zf := hz2.free
  have zl := hz2.lt
  have u0 := hu2.cell (i := 0) rfl
  have u1 := hu2.cell (i := 1) rfl
  have u2 := hu2.cell (i := 2) rfl
  have u3 := hu2.cell (i := 3) rfl
  have ul := hu2.lt
  have HG := Lib.hid (hg1.tr hg2)
  have HM := Lib.hid (hM.grow hg2)
  have HLK := Lib.hid hB2
  have HR := Lib.hid hr
  clear hr
  clear hz1 hu1 hg1 hg2 hB2 hM
  go_wp2_with (first | (with_reducible refine wsl (ty := 71) rfl ?_; unfold Stop; refine wlb row71 rfl (HLK.out) rfl rfl rfl ?_))
  refine (with_any' ⟨k, mb, u⟩ _).mono ?_
  rintro e3 w3 ⟨rfl, hb3⟩
  have hz3 := hz2.grow hb3
  have HG3 := Lib.hid (HG.out.tr hb3)
  have HL3 := Lib.hid (HLK.out.grow hb3)
  clear hz2 hu2 hb3 z0 z1 zf zl u0 u1 u2 u3 ul
  go_wp2_with fail
  refine (room_is ⟨k, mb, u⟩ (HOK.out mb) HR.out _).mono ?_
  rintro e4 w4 ⟨rfl, hb4⟩
  have hz4 := hz3.grow hb4
  have HL4 := Lib.hid (HL3.out.grow hb4)
  have z0 := hz4.cell (i := 0) rfl
  have z1 := hz4.cell (i := 1) rfl
  have zf := hz4.free
  have zl := hz4.lt
  have HG4 := Lib.hid (HG3.out.tr hb4)
  clear hz3 hz4 hb4
  go_wp2
  exact bodyPost_ret (v := .tuple #[.agg #[.int .i64 0, .int .i64 0], .int .i64 er]) (by simp [results, Tryz.results22, go_sem, z0, z1, zf, zl]) rfl ⟨rfl, Below.alloc ((HG4.out.setCell (by first | (simp <;> omega) | omega) _).setCell (by first | (simp <;> omega) | omega) _) (by first | (simp <;> omega) | omega) _⟩
theorem Tm.room_in {t : Tm} {x y : Int} (h : t.room = (x, y, 0)) : 0 ≤ x ∧ x ≤ y ∧ y ≤ 2000 := by
  unfold Tm.room at h
  split at h
  · cases h
  · cases h
    rename_i hc
    unfold Tm.rlo Tm.rhi imax imin at *
    (repeat' split at hc) <;> (repeat' split) <;> omega
theorem Depths_deep (k : Cd) (u : Cu) (w : World) (hT : TsA k.p.l (.slice k.sp k.p.l.length k.cap) w) (h : k.err [u] = 0) {x y : Int} (hr : (⟨k, 0, u⟩ : Tm).room = (x, y, 0)) :
    Calls Tryz.prog 22 #[.agg k.cs.toArray, u.val] w fun e w' => e = .returned (.tuple #[.agg #[.int .i64 (k.deepS x y).1, .int .i64 (k.deepS x y).2.1], .int .i64 (k.deepS x y).2.2]) ∧ Below w.heap.size w w' := by
  have h0 := h
  have HT := Lib.hid (fun (W : World) (hb : Below w.heap.size w W) => hT.below rfl hb)
  have HL := Lib.hid (fun cb W (hb : Below w.heap.size w W) hg => look1_ok k cb u W (hT.below rfl hb) hg h)
  have HOK := Lib.hid (fun mb => tm_ok (k := k) (mb := mb) (u := u) (Cd.err_zero h).2.1 ((Cd.err_zero h).2.2.1 u (by simp)))
  clear hT h
  have hl : k.cs.length = 17 := rfl
  have HB := Lib.hid (show Box (((w.alloc (Obj.cells k.cs.toArray 28)).alloc (Obj.cells #[.int .i64 u.a, .int .i64 u.b, .int .i64 u.c, .int .i64 u.d] 30)).alloc (Obj.cells #[.int .i64 0, .int .i64 0] 23)) w.heap.size k.cs 28 from (Box.fresh w k.cs 28).grow ((Gr.alloc _ _).tr (Gr.alloc _ _)))
  have HZ := Lib.hid (Box.fresh ((w.alloc (Obj.cells k.cs.toArray 28)).alloc (Obj.cells #[.int .i64 u.a, .int .i64 u.b, .int .i64 u.c, .int .i64 u.d] 30)) [.int .i64 0, .int .i64 0] 23)
  have HU := Lib.hid ((Box.fresh (w.alloc (Obj.cells k.cs.toArray 28)) [.int .i64 u.a, .int .i64 u.b, .int .i64 u.c, .int .i64 u.d] 30).grow (Gr.alloc _ (Obj.cells #[.int .i64 0, .int .i64 0] 23)))
  unfold Cu.val
  go_enter Tryz.func22, Tryz.ntmps22
  go_wp2_with (first | (with_reducible refine wsl (ty := 28) rfl ?_; unfold Stop; refine wlb row28 rfl (HB.out) rfl rfl rfl ?_))
  refine (HL.out _ _ ((((Gr.alloc _ _).tr (Gr.alloc _ _)).tr (Gr.alloc _ _)).tr (Gr.alloc _ _)) (by simpa using Box.fresh (((w.alloc (Obj.cells k.cs.toArray 28)).alloc (Obj.cells #[.int .i64 u.a, .int .i64 u.b, .int .i64 u.c, .int .i64 u.d] 30)).alloc (Obj.cells #[.int .i64 0, .int .i64 0] 23)) [.int .i64 u.a, .int .i64 u.b, .int .i64 u.c, .int .i64 u.d] 30)).mono ?_
  rintro e w1 ⟨mb, rfl, hmb, hM, hb1⟩
  have hz1 : Box w1 (w.heap.size + 1 + 1) [.int .i64 0, .int .i64 0] 23 := by simpa using (HZ.out.grow (Gr.alloc _ _)).grow hb1
  have hu1 : Box w1 (w.heap.size + 1) [.int .i64 u.a, .int .i64 u.b, .int .i64 u.c, .int .i64 u.d] 30 := by simpa using (HU.out.grow (Gr.alloc _ _)).grow hb1
  have hg1 : Gr w w1 := ((((Gr.alloc _ _).tr (Gr.alloc _ _)).tr (Gr.alloc _ _)).tr (Gr.alloc _ _)).tr hb1
  have hs1 := hz1.lt
  clear hb1
  obtain ⟨W2, hst, hB2, hg2⟩ := store_look w1 (k.lk mb) rfl (lk_one k mb)
  have h18 : (k.lk mb).length = 18 := rfl
  have hz2 := hz1.grow hg2
  have hu2 := hu1.grow hg2
  have z0 := hz2.cell (i := 0) rfl
  have z1 := hz2.cell (i := 1) rfl
  have zf := hz2.free
  have zl := hz2.lt
  have u0 := hu2.cell (i := 0) rfl
  have u1 := hu2.cell (i := 1) rfl
  have u2 := hu2.cell (i := 2) rfl
  have u3 := hu2.cell (i := 3) rfl
  have ul := hu2.lt
  have HG := Lib.hid (hg1.tr hg2)
  have HM := Lib.hid (hM.grow hg2)
  have HLK := Lib.hid hB2
  have HK := Lib.hid (show k.p.ok = true ∧ k.p.pw.1 ≤ k.p.pw.2 from ⟨(Cd.err_zero h0).1, (Cd.err_zero h0).2.2.2⟩)
  have HI := Lib.hid (Tm.room_in hr)
  have HR := Lib.hid hr
  clear hr
  clear hz1 hu1 hg1 hg2 hB2 hM
  go_wp2_with (first | (with_reducible refine wsl (ty := 71) rfl ?_; unfold Stop; refine wlb row71 rfl (HLK.out) rfl rfl rfl ?_))
  refine (with_any' ⟨k, mb, u⟩ _).mono ?_
  rintro e3 w3 ⟨rfl, hb3⟩
  have hz3 := hz2.grow hb3
  have HG3 := Lib.hid (HG.out.tr hb3)
  have HL3 := Lib.hid (HLK.out.grow hb3)
  clear hz2 hu2 hb3 z0 z1 zf zl u0 u1 u2 u3 ul
  go_wp2_with fail
  refine (room_is ⟨k, mb, u⟩ (HOK.out mb) HR.out _).mono ?_
  rintro e4 w4 ⟨rfl, hb4⟩
  have hz4 := hz3.grow hb4
  have HL4 := Lib.hid (HL3.out.grow hb4)
  have z0 := hz4.cell (i := 0) rfl
  have z1 := hz4.cell (i := 1) rfl
  have zf := hz4.free
  have zl := hz4.lt
  have HG4 := Lib.hid (HG3.out.tr hb4)
  clear hz3 hb4 h0
  clear z0 z1 zf zl
  have hx := (Box.fresh w4 [.int .i64 x, .int .i64 y] 23).cell (i := 0) rfl
  have hy := (Box.fresh w4 [.int .i64 x, .int .i64 y] 23).cell (i := 1) rfl
  have hzl := hz4.lt
  have HZ5 := Lib.hid (hz4.grow (Gr.alloc w4 (Obj.cells #[.int .i64 x, .int .i64 y] 23)))
  clear hz4
  go_wp2_with (first | (with_reducible refine wsl (ty := 71) rfl ?_; unfold Stop; refine wlb row71 rfl (HL4.out.grow (Gr.alloc _ _)) rfl rfl rfl ?_))
  refine (depths_ok k mb x y HK.out.1 HK.out.2 (by have := HI.out; omega) (by have := HI.out; omega) _ (HT.out _ (Below.alloc HG4.out (by first | (simp <;> omega) | omega) _))).mono ?_
  rintro e5 w5 ⟨rfl, hb5⟩
  have hz5 := HZ5.out.grow hb5
  have HG5 := Lib.hid ((HG4.out.tr (Gr.alloc _ _)).tr hb5)
  have z0 := hz5.cell (i := 0) rfl
  have z1 := hz5.cell (i := 1) rfl
  have zf := hz5.free
  have zl := hz5.lt
  clear hz5 hb5 hx hy hzl
  generalize hd : k.deepS x y = d
  go_wp2
  exact bodyPost_ret (v := .tuple #[.agg #[.int .i64 d.1, .int .i64 d.2.1], .int .i64 d.2.2]) (by simp [results, Tryz.results22, go_sem, z0, z1, zf, zl]) rfl ⟨by rw [hd], (HG5.out.setCell (by first | (simp <;> omega) | omega) _).setCell (by first | (simp <;> omega) | omega) _⟩
end Go.Proofs.YtcngaohfemdfjaaGreat
