import Derived.Test.YtcngaohfemdfjaaGreatY34
import Derived.Test.YtcngaohfemdfjaaGreatY33
import Derived.Test.YtcngaohfemdfjaaGreatX42
set_option linter.unusedVariables false
set_option linter.unusedSimpArgs false
namespace Go.Proofs.YtcngaohfemdfjaaGreat
open Go.RowKit
set_option maxRecDepth 100000 in
set_option maxHeartbeats 16000000 in
theorem depths_yesB (k : Cd) (u : Cu) (z : Int) (w : World) (hl : k.p.l.length ≤ 40) (hT : ThingsAt k.p.l (.slice k.sp k.p.l.length k.cap) w) (dl dh e rl rh n why g x y zz : Int) (bb : Bool) (hzb : 0 ≤ zz ∧ zz ≤ 1073741824) (h0 : Hid (k.deepA u = (dl, dh, e))) (h1 : Hid (k.roomA u = (rl, rh, 0))) (h2 : Hid (k.hurtsA u = (n, why, g))) (hcd : Hid ((k.okc && k.p.ok) = true)) (hr : 0 ≤ rl ∧ rl ≤ rh ∧ rh ≤ 2000)
    (hzr : 0 ≤ z ∧ z < 4294967296) (hnf : 2000 ≤ k.p.ne ∧ k.p.ne ≤ k.p.fa ∧ k.p.fa ≤ 1073741824) (hzz : Hid (k.p.ne + z % (k.p.fa - k.p.ne + 1) = zz)) (hst : Hid (k.p.stands zz = (x, y, 0))) (hin : Hid ((decide (rl ≤ x) && decide (y ≤ rh)) = bb))
    (he : e = 0 ∧ k.p.ne ≤ dl ∧ dl ≤ dh ∧ dh ≤ k.p.fa ∧ decide (dl ≤ zz) = true ∧ decide (zz ≤ dh) = false ∧ bb = false) (hg : g = 0 ∨ (g = 11 ∧ 0 ≤ n ∧ n < k.p.l.length ∧ ∃ sx sy, Hid (k.p.shift n = (sx, sy, 0)) ∧ ((why = 5 ∧ Hid ((decide (rl ≤ imax 0 sx) && decide (imin 2000 sy ≤ rh)) = true)) ∨ ((why == 5) = false ∧ Hid ((decide (rl ≤ sx) && decide (sy ≤ rh)) = false))))) :
    Calls Tryz.prog 9 #[.agg k.cs.toArray, u.val, .int .u32 z] w fun e w' => e = .returned (.bool true) ∧ Below w.heap.size w w' := by
  have d : decide (40 < (k.p.l.length : Int)) = false := by simp; omega
  have d' : decide (40 < k.p.l.length) = false := by simp; omega
  have g1 : decide (rl < 0) = false := by simp; omega
  have g2 : decide (rh < rl) = false := by simp; omega
  have g3 : decide (2000 < rh) = false := by simp; omega
  have HT := Lib.hid hT
  clear hl hT
  have p7 : ∀ h : 7 < k.cs.length, k.cs[7] = .slice k.sp k.p.l.length k.cap := fun _ => rfl
  have hl : k.cs.length = 17 := rfl
  have HB := Lib.hid (show Box ((w.alloc (Obj.cells k.cs.toArray 28)).alloc (Obj.cells #[.int .i64 u.a, .int .i64 u.b, .int .i64 u.c, .int .i64 u.d] 30)) w.heap.size k.cs 28 from (Box.fresh w k.cs 28).grow (Gr.alloc _ _))
  have HU := Lib.hid (Box.fresh (w.alloc (Obj.cells k.cs.toArray 28)) [.int .i64 u.a, .int .i64 u.b, .int .i64 u.c, .int .i64 u.d] 30)
  obtain ⟨rfl, y1, y2, y3, y4, y5, rfl⟩ := he
  have q1 : decide (dl < k.p.ne) = false := by simp; omega
  have q2 : decide (dh < dl) = false := by simp; omega
  have q3 : decide (k.p.fa < dh) = false := by simp; omega
  unfold Cu.val
  go_enter Tryz.func9, Tryz.ntmps9
  go_wp2_with (first | (with_reducible refine wpList_stopLoad (ty := 28) rfl ?_; unfold Stop; refine wpList_loadBox row28 rfl (HB.out) rfl rfl rfl ?_))
  refine (mdeep_is h0.out (ThingsAt.lasts _ _ _ _ HT.out ((Gr.alloc _ _).tr (Gr.alloc _ _)))).mono ?_
  rintro e w1 ⟨rfl, hb1⟩
  have hg1 := ((Gr.alloc w (Obj.cells k.cs.toArray 28)).tr (Gr.alloc _ (Obj.cells #[.int .i64 u.a, .int .i64 u.b, .int .i64 u.c, .int .i64 u.d] 30))).tr hb1
  have HB1 := Lib.hid ((HB.out.grow hb1).grow (Gr.alloc w1 (Obj.cells #[.int .i64 dl, .int .i64 dh] 23)))
  have hu1 := (HU.out.grow hb1)
  simp only [World.size_alloc] at hu1
  have HU1 := Lib.hid (hu1.grow (Gr.alloc w1 (Obj.cells #[.int .i64 dl, .int .i64 dh] 23)))
  have hu := hu1
  have u0 := hu.cell (i := 0) rfl
  have u1 := hu.cell (i := 1) rfl
  have u2 := hu.cell (i := 2) rfl
  have u3 := hu.cell (i := 3) rfl
  have ul := hu.lt
  clear hu
  have HG1 := Lib.hid hg1
  clear hb1 hu1 hg1
  go_wp2_with (first | (with_reducible refine wpList_stopLoad (ty := 28) rfl ?_; unfold Stop; refine wpList_loadBox row28 rfl (HB1.out) rfl rfl rfl ?_))
  refine (mroom_is h1.out (ThingsAt.lasts _ _ _ _ HT.out (HG1.out.tr (Gr.alloc _ _)))).mono ?_
  rintro e w2 ⟨rfl, hb2⟩
  have HS2 := Lib.hid (((Box.fresh w1 [.int .i64 dl, .int .i64 dh] 23).grow hb2).grow (Gr.alloc w2 (Obj.cells #[.int .i64 rl, .int .i64 rh] 23)))
  have HG2 := Lib.hid ((HG1.out.tr (Gr.alloc _ _)).tr hb2)
  have HB2 := Lib.hid ((HB1.out.grow hb2).grow (Gr.alloc w2 (Obj.cells #[.int .i64 rl, .int .i64 rh] 23)))
  clear u0 u1 u2 u3 ul
  have hu := HU1.out.grow hb2
  have u0 := hu.cell (i := 0) rfl
  have u1 := hu.cell (i := 1) rfl
  have u2 := hu.cell (i := 2) rfl
  have u3 := hu.cell (i := 3) rfl
  have ul := hu.lt
  clear hu
  clear hb2
  go_wp2_with (first | (with_reducible refine wpList_stopLoad (ty := 28) rfl ?_; unfold Stop; refine wpList_loadBox row28 rfl (HB2.out) rfl rfl rfl ?_))
  refine (hurts_is h2.out (ThingsAt.lasts _ _ _ _ HT.out (HG2.out.tr (Gr.alloc _ _)))).mono ?_
  rintro e w3 ⟨rfl, hb3⟩
  have HB3 := Lib.hid (HB2.out.grow hb3)
  have HS3 := Lib.hid (HS2.out.grow hb3)
  have HR3 := Lib.hid ((Box.fresh w2 [.int .i64 rl, .int .i64 rh] 23).grow hb3)
  have HG3 := Lib.hid ((HG2.out.tr (Gr.alloc _ _)).tr hb3)
  clear hb3 u0 u1 u2 u3 ul
  rcases hg with rfl | ⟨rfl, n0, n1, sx, sy, hsh, ⟨rfl, hcu⟩ | ⟨hcu2, hcu⟩⟩
  all_goals
    have hs3 := HS3.out
    have s0 := hs3.cell (i := 0) rfl
    have s1 := hs3.cell (i := 1) rfl
    have sl := hs3.lt
    have hr3 := HR3.out
    have r0 := hr3.cell (i := 0) rfl
    have r1 := hr3.cell (i := 1) rfl
    have rl' := hr3.lt
    clear hs3 hr3
    try have n2 : decide (n < 0) = false := by simp; omega
    try have n3 : decide ((k.p.l.length : Int) ≤ n) = false := by simp; omega
    go_wp2_with (first | (with_reducible refine wpList_stopLoad (ty := 28) rfl ?_; unfold Stop; refine wpList_loadBox row28 rfl (HB3.out) rfl rfl rfl ?_))
    refine (card_is (b := true) hcd.out (ThingsAt.lasts _ _ _ _ HT.out HG3.out)).mono ?_
    rintro e w4 ⟨rfl, hb4⟩
    
    have HG4 := Lib.hid (HG3.out.tr hb4)
    have HB4 := Lib.hid (HB3.out.grow hb4)
    have HS4 := Lib.hid (HS3.out.grow hb4)
    have HR4 := Lib.hid (HR3.out.grow hb4)
    clear hb4 s0 s1 sl r0 r1 rl'
    have hs4 := HS4.out
    have s0 := hs4.cell (i := 0) rfl
    have s1 := hs4.cell (i := 1) rfl
    have sl := hs4.lt
    have hr4 := HR4.out
    have r0 := hr4.cell (i := 0) rfl
    have r1 := hr4.cell (i := 1) rfl
    have rl' := hr4.lt
    clear hs4 hr4
    have hcb := HB4.out
    have c0 := hcb.cell (i := 0) rfl
    have c1 := hcb.cell (i := 1) rfl
    have c2 := hcb.cell (i := 2) rfl
    have c3 := hcb.cell (i := 3) rfl
    have c4 := hcb.cell (i := 4) rfl
    have c5 := hcb.cell (i := 5) rfl
    have c6 := hcb.cell (i := 6) rfl
    have c7 := hcb.cell (i := 7) rfl
    have ccl := hcb.lt
    clear hcb
    have W1 : IntKind.i64.wrap z = z := IntWalk.i64_in _ ⟨by omega, by omega⟩
    have W2 : IntKind.i64.wrap (k.p.fa - k.p.ne) = k.p.fa - k.p.ne := IntWalk.i64_in _ ⟨by omega, by omega⟩
    have W3 : IntKind.i64.wrap (k.p.fa - k.p.ne + 1) = k.p.fa - k.p.ne + 1 := IntWalk.i64_in _ ⟨by omega, by omega⟩
    have W4 : (k.p.fa - k.p.ne + 1 = 0) = False := eq_false (by omega)
    have W5 : z.tmod (k.p.fa - k.p.ne + 1) = z % (k.p.fa - k.p.ne + 1) := Int.tmod_eq_emod_of_nonneg hzr.1
    have W6 : IntKind.i64.wrap (k.p.ne + z % (k.p.fa - k.p.ne + 1)) = zz := by
      rw [hzz.out]
      exact IntWalk.i64_in _ ⟨by omega, by omega⟩
    go_wp2_with fail
    refine region2 15 ?_ ?_ ?_
    · kernel_rfl
    · kernel_rfl
    simp only [List.take_succ_cons, List.take_zero, List.drop_succ_cons, List.drop_zero]
    apply chain_eq (D := [(3, none)]) rfl (by kernel_rfl)
    · intro ρ W ⟨p1, p2, p3⟩ hG hF K hK; (try simp [FactsD] at hF); have ⟨hc, hf, hz⟩ := bcell (Gr.tr (Gr.drew _) hG); go_simp; (try simp only [W1, W2, W3, W4, W5, W6, if_false]); exact hK _ (gives_val)
    apply chain_eq (D := [(122, some 0)]) rfl (by kernel_rfl)
    · intro ρ W ⟨p1, p2, p3⟩ hG hF K hK; (try simp [FactsD] at hF); have ⟨hc, hf, hz⟩ := bcell (Gr.tr (Gr.drew _) hG); go_simp; (try simp only [W1, W2, W3, W4, W5, W6, if_false]); exact hK _ (gives_val)
    apply chain_eq (D := [(123, some 0)]) rfl (by kernel_rfl)
    · intro ρ W ⟨p1, p2, p3⟩ hG hF K hK; (try simp [FactsD] at hF); have ⟨hc, hf, hz⟩ := bcell (Gr.tr (Gr.drew _) hG); go_simp; (try simp only [W1, W2, W3, W4, W5, W6, if_false]); exact hK _ (gives_val)
    apply chain_eq (D := [(2, none)]) rfl (by kernel_rfl)
    · intro ρ W ⟨p1, p2, p3⟩ hG hF K hK; (try simp [FactsD] at hF); have ⟨hc, hf, hz⟩ := bcell (Gr.tr (Gr.drew _) hG); go_simp; (try simp only [W1, W2, W3, W4, W5, W6, if_false]); exact hK _ (gives_val)
    apply chain_eq (D := [(125, some 0)]) rfl (by kernel_rfl)
    · intro ρ W ⟨p1, p2, p3⟩ hG hF K hK; (try simp [FactsD] at hF); have ⟨hc, hf, hz⟩ := bcell (Gr.tr (Gr.drew _) hG); go_simp; (try simp only [W1, W2, W3, W4, W5, W6, if_false]); exact hK _ (gives_val)
    apply chain_eq (D := [(3, none)]) rfl (by kernel_rfl)
    · intro ρ W ⟨p1, p2, p3⟩ hG hF K hK; (try simp [FactsD] at hF); have ⟨hc, hf, hz⟩ := bcell (Gr.tr (Gr.drew _) hG); go_simp; (try simp only [W1, W2, W3, W4, W5, W6, if_false]); exact hK _ (gives_val)
    apply chain_eq (D := [(127, some 0)]) rfl (by kernel_rfl)
    · intro ρ W ⟨p1, p2, p3⟩ hG hF K hK; (try simp [FactsD] at hF); have ⟨hc, hf, hz⟩ := bcell (Gr.tr (Gr.drew _) hG); go_simp; (try simp only [W1, W2, W3, W4, W5, W6, if_false]); exact hK _ (gives_val)
    apply chain_eq (D := [(128, some 0)]) rfl (by kernel_rfl)
    · intro ρ W ⟨p1, p2, p3⟩ hG hF K hK; (try simp [FactsD] at hF); have ⟨hc, hf, hz⟩ := bcell (Gr.tr (Gr.drew _) hG); go_simp; (try simp only [W1, W2, W3, W4, W5, W6, if_false]); exact hK _ (gives_val)
    apply chain_eq (D := [(3, none)]) rfl (by kernel_rfl)
    · intro ρ W ⟨p1, p2, p3⟩ hG hF K hK; (try simp [FactsD] at hF); have ⟨hc, hf, hz⟩ := bcell (Gr.tr (Gr.drew _) hG); go_simp; (try simp only [W1, W2, W3, W4, W5, W6, if_false]); exact hK _ (gives_val)
    apply chain_eq (D := [(130, some 0)]) rfl (by kernel_rfl)
    · intro ρ W ⟨p1, p2, p3⟩ hG hF K hK; (try simp [FactsD] at hF); have ⟨hc, hf, hz⟩ := bcell (Gr.tr (Gr.drew _) hG); go_simp; (try simp only [W1, W2, W3, W4, W5, W6, if_false]); exact hK _ (gives_val)
    apply chain_eq (D := [(131, some 0)]) rfl (by kernel_rfl)
    · intro ρ W ⟨p1, p2, p3⟩ hG hF K hK; (try simp [FactsD] at hF); have ⟨hc, hf, hz⟩ := bcell (Gr.tr (Gr.drew _) hG); go_simp; (try simp only [W1, W2, W3, W4, W5, W6, if_false]); exact hK _ (gives_val)
    apply chain_eq (D := [(129, some 3), (132, some 0)]) rfl (by kernel_rfl)
    · intro ρ W ⟨p1, p2, p3⟩ hG hF K hK; (try simp [FactsD] at hF); have ⟨hc, hf, hz⟩ := bcell (Gr.tr (Gr.drew _) hG); go_simp; (try simp only [W1, W2, W3, W4, W5, W6, if_false]); exact hK _ (gives_val)
    apply chain_eq (D := [(133, some 0)]) rfl (by kernel_rfl)
    · intro ρ W ⟨p1, p2, p3⟩ hG hF K hK; (try simp [FactsD] at hF); have ⟨hc, hf, hz⟩ := bcell (Gr.tr (Gr.drew _) hG); go_simp; (try simp only [W1, W2, W3, W4, W5, W6, if_false]); exact hK _ (gives_val)
    apply chain_eq (D := [(126, some 8), (134, some 0)]) rfl (by kernel_rfl)
    · intro ρ W ⟨p1, p2, p3⟩ hG hF K hK; (try simp [FactsD] at hF); have ⟨hc, hf, hz⟩ := bcell (Gr.tr (Gr.drew _) hG); go_simp; (try simp only [W1, W2, W3, W4, W5, W6, if_false]); exact hK _ (gives_val)
    apply chain_eq (D := [(124, some 11), (135, some 0)]) rfl (by kernel_rfl)
    · intro ρ W ⟨p1, p2, p3⟩ hG hF K hK; (try simp [FactsD] at hF); have ⟨hc, hf, hz⟩ := bcell (Gr.tr (Gr.drew _) hG); go_simp; (try simp only [W1, W2, W3, W4, W5, W6, if_false]); exact hK _ (gives_val)
    refine chain_done ?_
    intro vs W hG hV
    obtain ⟨e14, -⟩ := hV
    simp only [Nat.reduceSub] at e14
    simp only [lay, Act.put, List.getElem?_toArray, List.getElem?_cons_succ, List.getElem?_cons_zero, Option.bind_some, List.setIfInBounds_toArray, List.set_cons_succ, List.set_cons_zero]
    generalize vs 0 = v0
    generalize vs 1 = v1
    generalize vs 2 = v2
    generalize vs 3 = v3
    generalize vs 4 = v4
    generalize vs 5 = v5
    generalize vs 6 = v6
    generalize vs 7 = v7
    generalize vs 8 = v8
    generalize vs 9 = v9
    generalize vs 10 = v10
    generalize vs 11 = v11
    generalize vs 12 = v12
    generalize vs 13 = v13
    generalize vs 14 = v14 at *
    subst e14
    obtain ⟨hc, hf, hz⟩ := bcell hG
    go_wp2_with fail
    have HGW := Lib.hid (HG4.out.tr hG)
    have HBW := Lib.hid (HB4.out.grow hG)
    have HSW := Lib.hid (HS4.out.grow hG)
    have HRW := Lib.hid (HR4.out.grow hG)
    clear hG hc hf hz W1 W2 W3 W4 W5 W6 s0 s1 sl r0 r1 rl' ccl c0 c1 c2 c3 c4 c5 c6 c7
    have hcb := HBW.out
    have c0 := hcb.cell (i := 0) rfl
    have c1 := hcb.cell (i := 1) rfl
    have c2 := hcb.cell (i := 2) rfl
    have c3 := hcb.cell (i := 3) rfl
    have c4 := hcb.cell (i := 4) rfl
    have c5 := hcb.cell (i := 5) rfl
    have c6 := hcb.cell (i := 6) rfl
    have c7 := hcb.cell (i := 7) rfl
    have ccl := hcb.lt
    clear hcb
    go_wp2_with fail
    refine (stands_is (p := k.p) (v := .slice k.sp k.p.l.length k.cap) hst.out (ThingsAt.lasts _ _ _ _ HT.out HGW.out)).mono ?_
    rintro e w5 ⟨rfl, hb5⟩
    have hga := Gr.tr hb5 (Gr.alloc w5 (Obj.cells #[.int .i64 x, .int .i64 y] 23))
    have HG5 := Lib.hid (HGW.out.tr hga)
    have HB5 := Lib.hid (HBW.out.grow hga)
    have HS5 := Lib.hid (HSW.out.grow hga)
    have HR5 := Lib.hid (HRW.out.grow hga)
    clear hb5 hga ccl c0 c1 c2 c3 c4 c5 c6 c7
    have hs5 := HS5.out
    have s0 := hs5.cell (i := 0) rfl
    have s1 := hs5.cell (i := 1) rfl
    have sl := hs5.lt
    have hr5 := HR5.out
    have r0 := hr5.cell (i := 0) rfl
    have r1 := hr5.cell (i := 1) rfl
    have rl' := hr5.lt
    clear hs5 hr5
    go_wp2_with fail
    refine (spanin_is hin.out).mono ?_
    rintro e w6 ⟨rfl, hb6⟩
    have HG6 := Lib.hid (HG5.out.tr hb6)
    have HB6 := Lib.hid (HB5.out.grow hb6)
    have HS6 := Lib.hid (HS5.out.grow hb6)
    have HR6 := Lib.hid (HR5.out.grow hb6)
    clear hb6 s0 s1 sl r0 r1 rl'
    have hs6 := HS6.out
    have s0 := hs6.cell (i := 0) rfl
    have s1 := hs6.cell (i := 1) rfl
    have sl := hs6.lt
    have hr6 := HR6.out
    have r0 := hr6.cell (i := 0) rfl
    have r1 := hr6.cell (i := 1) rfl
    have rl' := hr6.lt
    clear hs6 hr6
    have hcb := HB6.out
    have c0 := hcb.cell (i := 0) rfl
    have c1 := hcb.cell (i := 1) rfl
    have c2 := hcb.cell (i := 2) rfl
    have c3 := hcb.cell (i := 3) rfl
    have c4 := hcb.cell (i := 4) rfl
    have c5 := hcb.cell (i := 5) rfl
    have c6 := hcb.cell (i := 6) rfl
    have c7 := hcb.cell (i := 7) rfl
    have ccl := hcb.lt
    clear hcb
  · go_wp2_with fail
    refine (awake_any _).mono ?_
    rintro e wz ⟨rfl, hbz⟩
    go_wp2
    exact bodyPost_ret (v := .bool true) (by simp [results, Tryz.results9, go_sem]) rfl ⟨rfl, HG6.out.tr hbz⟩
  · go_wp2_with fail
    refine (shift_is (p := k.p) (v := .slice k.sp k.p.l.length k.cap) hsh.out (ThingsAt.lasts _ _ _ _ HT.out HG6.out)).mono ?_
    rintro e w7 ⟨rfl, hb7⟩
    have hga := Gr.tr hb7 (Gr.alloc w7 (Obj.cells #[.int .i64 sx, .int .i64 sy] 23))
    have HG7 := Lib.hid (HG6.out.tr hga)
    have HB7 := Lib.hid (HB6.out.grow hga)
    have HS7 := Lib.hid (HS6.out.grow hga)
    have HR7 := Lib.hid (HR6.out.grow hga)
    have HX7 := Lib.hid (Box.fresh w7 [.int .i64 sx, .int .i64 sy] 23)
    clear hb7 hga ccl c0 c1 c2 c3 c4 c5 c6 c7 s0 s1 sl r0 r1 rl'
    go_wp2_with fail
    · have g4 : 0 < sx := by omega
      have g5 : sy < 2000 := by omega
      have hcc : (decide (rl ≤ sx) && decide (sy ≤ rh)) = true := by
        have := hcu.out
        unfold imax imin at this
        simpa only [g4, g5, if_true, if_false] using this
      refine (lspan_any _ _ _).mono ?_
      rintro e w8 ⟨rfl, hb8⟩
      have hga := Gr.tr hb8 (Gr.alloc w8 (Obj.cells #[.int .i64 sx, .int .i64 sy] 23))
      have HG8 := Lib.hid (HG7.out.tr hga)
      have HB8 := Lib.hid (HB7.out.grow hga)
      have HS8 := Lib.hid (HS7.out.grow hga)
      have HR8 := Lib.hid (HR7.out.grow hga)
      have hx8 := HX7.out.grow hga
      have e0 := hx8.cell (i := 0) rfl
      have e1 := hx8.cell (i := 1) rfl
      have el := hx8.lt
      clear hb8 hga hx8
      have hs8 := HS8.out
      have s0 := hs8.cell (i := 0) rfl
      have s1 := hs8.cell (i := 1) rfl
      have sl := hs8.lt
      have hr8 := HR8.out
      have r0 := hr8.cell (i := 0) rfl
      have r1 := hr8.cell (i := 1) rfl
      have rl' := hr8.lt
      clear hs8 hr8
      go_wp2_with fail
      refine (spanin_is (v := true) hcc).mono ?_
      rintro e w9 ⟨rfl, hb9⟩
      have HG9 := Lib.hid (HG8.out.tr hb9)
      have HB9 := Lib.hid (HB8.out.grow hb9)
      have HS9 := Lib.hid (HS8.out.grow hb9)
      have HR9 := Lib.hid (HR8.out.grow hb9)
      clear hb9
      go_wp2_with fail
      refine (awake_any _).mono ?_
      rintro e wz ⟨rfl, hbz⟩
      go_wp2
      exact bodyPost_ret (v := .bool true) (by simp [results, Tryz.results9, go_sem]) rfl ⟨rfl, HG9.out.tr hbz⟩
    · have g4 : 0 < sx := by omega
      have g5 : ¬ sy < 2000 := by omega
      have hcc : (decide (rl ≤ sx) && decide (2000 ≤ rh)) = true := by
        have := hcu.out
        unfold imax imin at this
        simpa only [g4, g5, if_true, if_false] using this
      refine (lspan_any _ _ _).mono ?_
      rintro e w8 ⟨rfl, hb8⟩
      have hga := Gr.tr hb8 (Gr.alloc w8 (Obj.cells #[.int .i64 sx, .int .i64 2000] 23))
      have HG8 := Lib.hid (HG7.out.tr hga)
      have HB8 := Lib.hid (HB7.out.grow hga)
      have HS8 := Lib.hid (HS7.out.grow hga)
      have HR8 := Lib.hid (HR7.out.grow hga)
      have hx8 := HX7.out.grow hga
      have e0 := hx8.cell (i := 0) rfl
      have e1 := hx8.cell (i := 1) rfl
      have el := hx8.lt
      clear hb8 hga hx8
      have hs8 := HS8.out
      have s0 := hs8.cell (i := 0) rfl
      have s1 := hs8.cell (i := 1) rfl
      have sl := hs8.lt
      have hr8 := HR8.out
      have r0 := hr8.cell (i := 0) rfl
      have r1 := hr8.cell (i := 1) rfl
      have rl' := hr8.lt
      clear hs8 hr8
      go_wp2_with fail
      refine (spanin_is (v := true) hcc).mono ?_
      rintro e w9 ⟨rfl, hb9⟩
      have HG9 := Lib.hid (HG8.out.tr hb9)
      have HB9 := Lib.hid (HB8.out.grow hb9)
      have HS9 := Lib.hid (HS8.out.grow hb9)
      have HR9 := Lib.hid (HR8.out.grow hb9)
      clear hb9
      go_wp2_with fail
      refine (awake_any _).mono ?_
      rintro e wz ⟨rfl, hbz⟩
      go_wp2
      exact bodyPost_ret (v := .bool true) (by simp [results, Tryz.results9, go_sem]) rfl ⟨rfl, HG9.out.tr hbz⟩
    · have g4 : ¬ 0 < sx := by omega
      have g5 : sy < 2000 := by omega
      have hcc : (decide (rl ≤ 0) && decide (sy ≤ rh)) = true := by
        have := hcu.out
        unfold imax imin at this
        simpa only [g4, g5, if_true, if_false] using this
      refine (lspan_any _ _ _).mono ?_
      rintro e w8 ⟨rfl, hb8⟩
      have hga := Gr.tr hb8 (Gr.alloc w8 (Obj.cells #[.int .i64 0, .int .i64 sy] 23))
      have HG8 := Lib.hid (HG7.out.tr hga)
      have HB8 := Lib.hid (HB7.out.grow hga)
      have HS8 := Lib.hid (HS7.out.grow hga)
      have HR8 := Lib.hid (HR7.out.grow hga)
      have hx8 := HX7.out.grow hga
      have e0 := hx8.cell (i := 0) rfl
      have e1 := hx8.cell (i := 1) rfl
      have el := hx8.lt
      clear hb8 hga hx8
      have hs8 := HS8.out
      have s0 := hs8.cell (i := 0) rfl
      have s1 := hs8.cell (i := 1) rfl
      have sl := hs8.lt
      have hr8 := HR8.out
      have r0 := hr8.cell (i := 0) rfl
      have r1 := hr8.cell (i := 1) rfl
      have rl' := hr8.lt
      clear hs8 hr8
      go_wp2_with fail
      refine (spanin_is (v := true) hcc).mono ?_
      rintro e w9 ⟨rfl, hb9⟩
      have HG9 := Lib.hid (HG8.out.tr hb9)
      have HB9 := Lib.hid (HB8.out.grow hb9)
      have HS9 := Lib.hid (HS8.out.grow hb9)
      have HR9 := Lib.hid (HR8.out.grow hb9)
      clear hb9
      go_wp2_with fail
      refine (awake_any _).mono ?_
      rintro e wz ⟨rfl, hbz⟩
      go_wp2
      exact bodyPost_ret (v := .bool true) (by simp [results, Tryz.results9, go_sem]) rfl ⟨rfl, HG9.out.tr hbz⟩
    · have g4 : ¬ 0 < sx := by omega
      have g5 : ¬ sy < 2000 := by omega
      have hcc : (decide (rl ≤ 0) && decide (2000 ≤ rh)) = true := by
        have := hcu.out
        unfold imax imin at this
        simpa only [g4, g5, if_true, if_false] using this
      refine (lspan_any _ _ _).mono ?_
      rintro e w8 ⟨rfl, hb8⟩
      have hga := Gr.tr hb8 (Gr.alloc w8 (Obj.cells #[.int .i64 0, .int .i64 2000] 23))
      have HG8 := Lib.hid (HG7.out.tr hga)
      have HB8 := Lib.hid (HB7.out.grow hga)
      have HS8 := Lib.hid (HS7.out.grow hga)
      have HR8 := Lib.hid (HR7.out.grow hga)
      have hx8 := HX7.out.grow hga
      have e0 := hx8.cell (i := 0) rfl
      have e1 := hx8.cell (i := 1) rfl
      have el := hx8.lt
      clear hb8 hga hx8
      have hs8 := HS8.out
      have s0 := hs8.cell (i := 0) rfl
      have s1 := hs8.cell (i := 1) rfl
      have sl := hs8.lt
      have hr8 := HR8.out
      have r0 := hr8.cell (i := 0) rfl
      have r1 := hr8.cell (i := 1) rfl
      have rl' := hr8.lt
      clear hs8 hr8
      go_wp2_with fail
      refine (spanin_is (v := true) hcc).mono ?_
      rintro e w9 ⟨rfl, hb9⟩
      have HG9 := Lib.hid (HG8.out.tr hb9)
      have HB9 := Lib.hid (HB8.out.grow hb9)
      have HS9 := Lib.hid (HS8.out.grow hb9)
      have HR9 := Lib.hid (HR8.out.grow hb9)
      clear hb9
      go_wp2_with fail
      refine (awake_any _).mono ?_
      rintro e wz ⟨rfl, hbz⟩
      go_wp2
      exact bodyPost_ret (v := .bool true) (by simp [results, Tryz.results9, go_sem]) rfl ⟨rfl, HG9.out.tr hbz⟩
  · have hcu1 : (why != 5) = true := by simpa using hcu2
    go_wp2_with fail
    refine (shift_is (p := k.p) (v := .slice k.sp k.p.l.length k.cap) hsh.out (ThingsAt.lasts _ _ _ _ HT.out HG6.out)).mono ?_
    rintro e w7 ⟨rfl, hb7⟩
    have hga := Gr.tr hb7 (Gr.alloc w7 (Obj.cells #[.int .i64 sx, .int .i64 sy] 23))
    have HG7 := Lib.hid (HG6.out.tr hga)
    have HB7 := Lib.hid (HB6.out.grow hga)
    have HS7 := Lib.hid (HS6.out.grow hga)
    have HR7 := Lib.hid (HR6.out.grow hga)
    have HX7 := Lib.hid (Box.fresh w7 [.int .i64 sx, .int .i64 sy] 23)
    clear hb7 hga ccl c0 c1 c2 c3 c4 c5 c6 c7 s0 s1 sl r0 r1 rl'
    go_wp2_with fail
    · refine (lspan_any _ _ _).mono ?_
      rintro e w8 ⟨rfl, hb8⟩
      have hga := Gr.tr hb8 (Gr.alloc w8 (Obj.cells #[.int .i64 sx, .int .i64 sy] 23))
      have HG8 := Lib.hid (HG7.out.tr hga)
      have HB8 := Lib.hid (HB7.out.grow hga)
      have HS8 := Lib.hid (HS7.out.grow hga)
      have HR8 := Lib.hid (HR7.out.grow hga)
      have hx8 := HX7.out.grow hga
      have e0 := hx8.cell (i := 0) rfl
      have e1 := hx8.cell (i := 1) rfl
      have el := hx8.lt
      clear hb8 hga hx8
      have hs8 := HS8.out
      have s0 := hs8.cell (i := 0) rfl
      have s1 := hs8.cell (i := 1) rfl
      have sl := hs8.lt
      have hr8 := HR8.out
      have r0 := hr8.cell (i := 0) rfl
      have r1 := hr8.cell (i := 1) rfl
      have rl' := hr8.lt
      clear hs8 hr8
      go_wp2_with fail
      refine (spanin_is (v := false) hcu.out).mono ?_
      rintro e w9 ⟨rfl, hb9⟩
      have HG9 := Lib.hid (HG8.out.tr hb9)
      have HB9 := Lib.hid (HB8.out.grow hb9)
      have HS9 := Lib.hid (HS8.out.grow hb9)
      have HR9 := Lib.hid (HR8.out.grow hb9)
      clear hb9
      go_wp2_with fail
      refine (awake_any _).mono ?_
      rintro e wz ⟨rfl, hbz⟩
      go_wp2
      exact bodyPost_ret (v := .bool true) (by simp [results, Tryz.results9, go_sem]) rfl ⟨rfl, HG9.out.tr hbz⟩
    · refine (lspan_any _ _ _).mono ?_
      rintro e w8 ⟨rfl, hb8⟩
      have hga := Gr.tr hb8 (Gr.alloc w8 (Obj.cells #[.int .i64 sx, .int .i64 2000] 23))
      have HG8 := Lib.hid (HG7.out.tr hga)
      have HB8 := Lib.hid (HB7.out.grow hga)
      have HS8 := Lib.hid (HS7.out.grow hga)
      have HR8 := Lib.hid (HR7.out.grow hga)
      have hx8 := HX7.out.grow hga
      have e0 := hx8.cell (i := 0) rfl
      have e1 := hx8.cell (i := 1) rfl
      have el := hx8.lt
      clear hb8 hga hx8
      have hs8 := HS8.out
      have s0 := hs8.cell (i := 0) rfl
      have s1 := hs8.cell (i := 1) rfl
      have sl := hs8.lt
      have hr8 := HR8.out
      have r0 := hr8.cell (i := 0) rfl
      have r1 := hr8.cell (i := 1) rfl
      have rl' := hr8.lt
      clear hs8 hr8
      go_wp2_with fail
      refine (spanin_is (v := false) hcu.out).mono ?_
      rintro e w9 ⟨rfl, hb9⟩
      have HG9 := Lib.hid (HG8.out.tr hb9)
      have HB9 := Lib.hid (HB8.out.grow hb9)
      have HS9 := Lib.hid (HS8.out.grow hb9)
      have HR9 := Lib.hid (HR8.out.grow hb9)
      clear hb9
      go_wp2_with fail
      refine (awake_any _).mono ?_
      rintro e wz ⟨rfl, hbz⟩
      go_wp2
      exact bodyPost_ret (v := .bool true) (by simp [results, Tryz.results9, go_sem]) rfl ⟨rfl, HG9.out.tr hbz⟩
    · refine (lspan_any _ _ _).mono ?_
      rintro e w8 ⟨rfl, hb8⟩
      have hga := Gr.tr hb8 (Gr.alloc w8 (Obj.cells #[.int .i64 0, .int .i64 sy] 23))
      have HG8 := Lib.hid (HG7.out.tr hga)
      have HB8 := Lib.hid (HB7.out.grow hga)
      have HS8 := Lib.hid (HS7.out.grow hga)
      have HR8 := Lib.hid (HR7.out.grow hga)
      have hx8 := HX7.out.grow hga
      have e0 := hx8.cell (i := 0) rfl
      have e1 := hx8.cell (i := 1) rfl
      have el := hx8.lt
      clear hb8 hga hx8
      have hs8 := HS8.out
      have s0 := hs8.cell (i := 0) rfl
      have s1 := hs8.cell (i := 1) rfl
      have sl := hs8.lt
      have hr8 := HR8.out
      have r0 := hr8.cell (i := 0) rfl
      have r1 := hr8.cell (i := 1) rfl
      have rl' := hr8.lt
      clear hs8 hr8
      go_wp2_with fail
      refine (spanin_is (v := false) hcu.out).mono ?_
      rintro e w9 ⟨rfl, hb9⟩
      have HG9 := Lib.hid (HG8.out.tr hb9)
      have HB9 := Lib.hid (HB8.out.grow hb9)
      have HS9 := Lib.hid (HS8.out.grow hb9)
      have HR9 := Lib.hid (HR8.out.grow hb9)
      clear hb9
      go_wp2_with fail
      refine (awake_any _).mono ?_
      rintro e wz ⟨rfl, hbz⟩
      go_wp2
      exact bodyPost_ret (v := .bool true) (by simp [results, Tryz.results9, go_sem]) rfl ⟨rfl, HG9.out.tr hbz⟩
    · refine (lspan_any _ _ _).mono ?_
      rintro e w8 ⟨rfl, hb8⟩
      have hga := Gr.tr hb8 (Gr.alloc w8 (Obj.cells #[.int .i64 0, .int .i64 2000] 23))
      have HG8 := Lib.hid (HG7.out.tr hga)
      have HB8 := Lib.hid (HB7.out.grow hga)
      have HS8 := Lib.hid (HS7.out.grow hga)
      have HR8 := Lib.hid (HR7.out.grow hga)
      have hx8 := HX7.out.grow hga
      have e0 := hx8.cell (i := 0) rfl
      have e1 := hx8.cell (i := 1) rfl
      have el := hx8.lt
      clear hb8 hga hx8
      have hs8 := HS8.out
      have s0 := hs8.cell (i := 0) rfl
      have s1 := hs8.cell (i := 1) rfl
      have sl := hs8.lt
      have hr8 := HR8.out
      have r0 := hr8.cell (i := 0) rfl
      have r1 := hr8.cell (i := 1) rfl
      have rl' := hr8.lt
      clear hs8 hr8
      go_wp2_with fail
      refine (spanin_is (v := false) hcu.out).mono ?_
      rintro e w9 ⟨rfl, hb9⟩
      have HG9 := Lib.hid (HG8.out.tr hb9)
      have HB9 := Lib.hid (HB8.out.grow hb9)
      have HS9 := Lib.hid (HS8.out.grow hb9)
      have HR9 := Lib.hid (HR8.out.grow hb9)
      clear hb9
      go_wp2_with fail
      refine (awake_any _).mono ?_
      rintro e wz ⟨rfl, hbz⟩
      go_wp2
      exact bodyPost_ret (v := .bool true) (by simp [results, Tryz.results9, go_sem]) rfl ⟨rfl, HG9.out.tr hbz⟩
end Go.Proofs.YtcngaohfemdfjaaGreat
