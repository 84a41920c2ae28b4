import Derived.Test.YtcngaohfemdfjaaGreatY34
import Derived.Test.YtcngaohfemdfjaaGreatY33
set_option linter.unusedVariables false
set_option linter.unusedSimpArgs false
namespace Go.Proofs.YtcngaohfemdfjaaGreat
open Go.RowKit
set_option maxHeartbeats 1000000 in
theorem spanin_any (a b c d : Int) (w : World) :
    Calls Tryz.prog 37 #[.agg #[.int .i64 a, .int .i64 b], .agg #[.int .i64 c, .int .i64 d]] w fun e w' => e = .returned (.bool (decide (c ≤ a) && decide (b ≤ d))) ∧ Below w.heap.size w w' := by
  by_cases h : c ≤ a
  · have h' : decide (c ≤ a) = true := by simpa using h
    go_enter Tryz.func37, Tryz.ntmps37
    go_wp2
    exact bodyPost_ret (v := .bool (decide (b ≤ d))) (by simp [results, Tryz.results37, go_sem]) rfl ⟨by simp [h], (Gr.alloc _ _).tr (Gr.alloc _ _)⟩
  · have h' : decide (c ≤ a) = false := by simpa using h
    go_enter Tryz.func37, Tryz.ntmps37
    go_wp2
    exact bodyPost_ret (v := .bool false) (by simp [results, Tryz.results37, go_sem]) rfl ⟨by simp [h], (Gr.alloc _ _).tr (Gr.alloc _ _)⟩
set_option maxRecDepth 100000 in
set_option maxHeartbeats 2000000 in
theorem depths_many (k : Cd) (u : Cu) (z : Int) (w : World) (hl : 40 < k.p.l.length) :
    Calls Tryz.prog 9 #[.agg k.cs.toArray, u.val, .int .u32 z] w fun e w' => e = .returned (.bool true) ∧ Below w.heap.size w w' := by
  have d : decide (40 < (k.p.l.length : Int)) = true := by simp; omega
  have d' : decide (40 < k.p.l.length) = true := by simp; omega
  clear hl
  have p7 : ∀ h : 7 < k.cs.length, k.cs[7] = .slice k.sp k.p.l.length k.cap := fun _ => rfl
  have hl : k.cs.length = 17 := rfl
  unfold Cu.val
  go_enter Tryz.func9, Tryz.ntmps9
  go_wp2_with fail
  refine (awake_any _).mono ?_
  rintro e w1 ⟨rfl, hb1⟩
  go_wp2
  exact bodyPost_ret (v := .bool true) (by simp [results, Tryz.results9, go_sem]) rfl ⟨rfl, Gr.tr ((Gr.alloc _ _).tr (Gr.alloc _ _)) hb1⟩
set_option maxRecDepth 100000 in
set_option maxHeartbeats 4000000 in
theorem depths_err (k : Cd) (u : Cu) (z : Int) (w : World) (hl : k.p.l.length ≤ 40) (hT : ThingsAt k.p.l (.slice k.sp k.p.l.length k.cap) w) (x a b f : Int) (h0 : Hid (k.deepA u = (0, 0, x))) (h1 : Hid (k.roomA u = (0, 0, x))) (h2 : Hid (k.hurtsA u = (a, b, f))) (hx : (x != 0) = true) (hy : (x == 4) = true ∨ ((x == 4) = false ∧ (x == f) = true ∧ (a == 0) = true ∧ (b == 0) = true)) :
    Calls Tryz.prog 9 #[.agg k.cs.toArray, u.val, .int .u32 z] w fun e w' => e = .returned (.bool true) ∧ Below w.heap.size w w' := by
  have d : decide (40 < (k.p.l.length : Int)) = false := by simp; omega
  have d' : decide (40 < k.p.l.length) = false := by simp; omega
  have HT := Lib.hid hT
  clear hl hT
  have p7 : ∀ h : 7 < k.cs.length, k.cs[7] = .slice k.sp k.p.l.length k.cap := fun _ => rfl
  have hl : k.cs.length = 17 := rfl
  have HB := Lib.hid (show Box ((w.alloc (Obj.cells k.cs.toArray 28)).alloc (Obj.cells #[.int .i64 u.a, .int .i64 u.b, .int .i64 u.c, .int .i64 u.d] 30)) w.heap.size k.cs 28 from (Box.fresh w k.cs 28).grow (Gr.alloc _ _))
  have HU := Lib.hid (Box.fresh (w.alloc (Obj.cells k.cs.toArray 28)) [.int .i64 u.a, .int .i64 u.b, .int .i64 u.c, .int .i64 u.d] 30)
  unfold Cu.val
  go_enter Tryz.func9, Tryz.ntmps9
  go_wp2_with (first | (with_reducible refine wpList_stopLoad (ty := 28) rfl ?_; unfold Stop; refine wpList_loadBox row28 rfl (HB.out) rfl rfl rfl ?_))
  refine (mdeep_is h0.out (ThingsAt.lasts _ _ _ _ HT.out ((Gr.alloc _ _).tr (Gr.alloc _ _)))).mono ?_
  rintro e w1 ⟨rfl, hb1⟩
  have hg1 := ((Gr.alloc w (Obj.cells k.cs.toArray 28)).tr (Gr.alloc _ (Obj.cells #[.int .i64 u.a, .int .i64 u.b, .int .i64 u.c, .int .i64 u.d] 30))).tr hb1
  have HB1 := Lib.hid ((HB.out.grow hb1).grow (Gr.alloc w1 (Obj.cells #[.int .i64 0, .int .i64 0] 23)))
  have hu1 := (HU.out.grow hb1)
  simp only [World.size_alloc] at hu1
  have HU1 := Lib.hid (hu1.grow (Gr.alloc w1 (Obj.cells #[.int .i64 0, .int .i64 0] 23)))
  have hu := hu1
  have u0 := hu.cell (i := 0) rfl
  have u1 := hu.cell (i := 1) rfl
  have u2 := hu.cell (i := 2) rfl
  have u3 := hu.cell (i := 3) rfl
  have ul := hu.lt
  clear hu
  have HG1 := Lib.hid hg1
  clear hb1 hu1 hg1
  go_wp2_with (first | (with_reducible refine wpList_stopLoad (ty := 28) rfl ?_; unfold Stop; refine wpList_loadBox row28 rfl (HB1.out) rfl rfl rfl ?_))
  refine (mroom_is h1.out (ThingsAt.lasts _ _ _ _ HT.out (HG1.out.tr (Gr.alloc _ _)))).mono ?_
  rintro e w2 ⟨rfl, hb2⟩
  have HS2 := Lib.hid (((Box.fresh w1 [.int .i64 0, .int .i64 0] 23).grow hb2).grow (Gr.alloc w2 (Obj.cells #[.int .i64 0, .int .i64 0] 23)))
  have HG2 := Lib.hid ((HG1.out.tr (Gr.alloc _ _)).tr hb2)
  have HB2 := Lib.hid ((HB1.out.grow hb2).grow (Gr.alloc w2 (Obj.cells #[.int .i64 0, .int .i64 0] 23)))
  clear u0 u1 u2 u3 ul
  have hu := HU1.out.grow hb2
  have u0 := hu.cell (i := 0) rfl
  have u1 := hu.cell (i := 1) rfl
  have u2 := hu.cell (i := 2) rfl
  have u3 := hu.cell (i := 3) rfl
  have ul := hu.lt
  clear hu
  clear hb2
  go_wp2_with (first | (with_reducible refine wpList_stopLoad (ty := 28) rfl ?_; unfold Stop; refine wpList_loadBox row28 rfl (HB2.out) rfl rfl rfl ?_))
  refine (hurts_is h2.out (ThingsAt.lasts _ _ _ _ HT.out (HG2.out.tr (Gr.alloc _ _)))).mono ?_
  rintro e w3 ⟨rfl, hb3⟩
  have hs3 := HS2.out.grow hb3
  have s0 := hs3.cell (i := 0) rfl
  have s1 := hs3.cell (i := 1) rfl
  have sl := hs3.lt
  have hr3 := (Box.fresh w2 [.int .i64 0, .int .i64 0] 23).grow hb3
  have r0 := hr3.cell (i := 0) rfl
  have r1 := hr3.cell (i := 1) rfl
  have rl := hr3.lt
  have HG3 := Lib.hid ((HG2.out.tr (Gr.alloc _ _)).tr hb3)
  have hxx : (x == x) = true := by simp
  clear hb3 hs3 hr3 u0 u1 u2 u3 ul
  rcases hy with hy | ⟨hy, hf, ha, hb⟩
  all_goals
    go_wp2_with fail
    refine (awake_any _).mono ?_
    rintro e w4 ⟨rfl, hb4⟩
    go_wp2
    exact bodyPost_ret (v := .bool true) (by simp [results, Tryz.results9, go_sem]) rfl ⟨rfl, HG3.out.tr hb4⟩
end Go.Proofs.YtcngaohfemdfjaaGreat
