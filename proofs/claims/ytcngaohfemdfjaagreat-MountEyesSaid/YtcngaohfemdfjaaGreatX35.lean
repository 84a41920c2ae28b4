import Derived.Test.YtcngaohfemdfjaaGreatY34
import Derived.Test.YtcngaohfemdfjaaGreatY33
set_option linter.unusedVariables false
set_option linter.unusedSimpArgs false
namespace Go.Proofs.YtcngaohfemdfjaaGreat
open Go.RowKit
theorem turned_is {k : Cd} {u : Cu} {bc bu bs m : Nat} {n : Int} {b : Bool} {w : World} (h : k.turned u m n = b) (hok : k.p.ok = true) (hk : k.okc = true) (hu : u.isT k.cuts = true) (hm : m < 4096) (hn : 0 ≤ n ∧ n ≤ 20000) (hT : ThingsAt k.p.l (.slice k.sp k.p.l.length k.cap) w)
    (hc : Box w bc k.cs 28) (hb : Box w bu [.int .i64 u.a, .int .i64 u.b, .int .i64 u.c, .int .i64 u.d] 30) (hs : Box w bs [.int .i64 (m : Nat)] 3) :
    Calls Tryz.prog 36 #[.int .i64 n, .pointer (some ⟨bc, 0, none⟩), .pointer (some ⟨bu, 0, none⟩), .pointer (some ⟨bs, 0, none⟩)] w fun e w' => e = .returned (.bool b) ∧ Below w.heap.size w w' := by
  rw [← h]; exact turned_any k u bc bu bs m n hok hk hu hm hn w hT hc hb hs
set_option maxRecDepth 100000 in
set_option maxHeartbeats 8000000 in
theorem eyes_yes (k : Cd) (u : Cu) (w : World) (hl : k.p.l.length ≤ 40) (hT : ThingsAt k.p.l (.slice k.sp k.p.l.length k.cap) w) (x y a b f : Int) (m : Nat) (h1 : Hid (k.eyesA u = (x, y, 0))) (h2 : Hid (k.hurtsA u = (a, b, f))) (h3 : Hid (k.seenA = (((m : Nat) : Int), 0)))
    (hok : Hid (k.p.ok = true)) (hk : Hid (k.okc = true)) (hu : Hid (u.isT k.cuts = true)) (hm : m < 4096) (hx1 : 1 ≤ x) (hxy : x ≤ y) (hy1 : y ≤ 10000)
    (ht1 : Hid (k.turned u m x = false)) (ht2 : Hid (k.turned u m y = false)) (ht3 : decide (1 < x) = false ∨ (decide (1 < x) = true ∧ Hid (k.turned u m (x - 1) = true))) (ht4 : decide (y < 10000) = false ∨ (decide (y < 10000) = true ∧ Hid (k.turned u m (y + 1) = true)))
    (hf : f = 11 ∨ (f = 0 ∧ decide (x ≤ k.elo) = true ∧ decide (k.ehi ≤ y) = true)) :
    Calls Tryz.prog 8 #[.agg k.cs.toArray, u.val] w fun e w' => e = .returned (.bool true) ∧ Below w.heap.size w w' := by
  have d : decide (40 < (k.p.l.length : Int)) = false := by simp; omega
  have d' : decide (40 < k.p.l.length) = false := by simp; omega
  have g1 : decide (x < 1) = false := by simp; omega
  have g2 : decide (y < x) = false := by simp; omega
  have g3 : decide (10000 < y) = false := by simp; omega
  have HT := Lib.hid hT
  have hmf : ∀ (fn : Fn) (first cap : Array Value) (w : World), (Instr.makeFunc fn first cap).run Tryz.prog w = .ok (.func fn first cap) w := fun _ _ _ _ => rfl
  clear hl hT
  have p7 : ∀ h : 7 < k.cs.length, k.cs[7] = .slice k.sp k.p.l.length k.cap := fun _ => rfl
  have hl : k.cs.length = 17 := rfl
  have HB := Lib.hid (show Box ((w.alloc (Obj.cells k.cs.toArray 28)).alloc (Obj.cells #[.int .i64 u.a, .int .i64 u.b, .int .i64 u.c, .int .i64 u.d] 30)) w.heap.size k.cs 28 from (Box.fresh w k.cs 28).grow (Gr.alloc _ _))
  have HU := Lib.hid (Box.fresh (w.alloc (Obj.cells k.cs.toArray 28)) [.int .i64 u.a, .int .i64 u.b, .int .i64 u.c, .int .i64 u.d] 30)
  unfold Cu.val
  go_enter Tryz.func8, Tryz.ntmps8
  go_wp2_with (first | (with_reducible refine wpList_stopLoad (ty := 28) rfl ?_; unfold Stop; refine wpList_loadBox row28 rfl (HB.out) rfl rfl rfl ?_))
  refine (eyes_is h1.out (ThingsAt.lasts _ _ _ _ HT.out ((Gr.alloc _ _).tr (Gr.alloc _ _)))).mono ?_
  rintro e w1 ⟨rfl, hb1⟩
  have hg1 := ((Gr.alloc w (Obj.cells k.cs.toArray 28)).tr (Gr.alloc _ (Obj.cells #[.int .i64 u.a, .int .i64 u.b, .int .i64 u.c, .int .i64 u.d] 30))).tr hb1
  have HB1 := Lib.hid ((HB.out.grow hb1).grow (Gr.alloc w1 (Obj.cells #[.int .i64 x, .int .i64 y] 23)))
  have hu1 := (HU.out.grow hb1)
  simp only [World.size_alloc] at hu1
  have u0 := hu1.cell (i := 0) rfl
  have u1 := hu1.cell (i := 1) rfl
  have u2 := hu1.cell (i := 2) rfl
  have u3 := hu1.cell (i := 3) rfl
  have ul := hu1.lt
  have HU1 := Lib.hid (hu1.grow (Gr.alloc w1 (Obj.cells #[.int .i64 x, .int .i64 y] 23)))
  have HG1 := Lib.hid hg1
  clear hb1 hu1 hg1
  go_wp2_with (first | (with_reducible refine wpList_stopLoad (ty := 28) rfl ?_; unfold Stop; refine wpList_loadBox row28 rfl (HB1.out) rfl rfl rfl ?_))
  refine (hurts_is h2.out (ThingsAt.lasts _ _ _ _ HT.out (HG1.out.tr (Gr.alloc _ _)))).mono ?_
  rintro e w2 ⟨rfl, hb2⟩
  have hs2 := (Box.fresh w1 [.int .i64 x, .int .i64 y] 23).grow hb2
  have HG2 := Lib.hid ((HG1.out.tr (Gr.alloc _ _)).tr hb2)
  have HB2 := Lib.hid (HB1.out.grow hb2)
  have HU2 := Lib.hid (HU1.out.grow hb2)
  have HS2 := Lib.hid hs2
  clear hb2 hs2 u0 u1 u2 u3 ul
  go_wp2_with (first | (with_reducible refine wpList_stopLoad (ty := 28) rfl ?_; unfold Stop; refine wpList_loadBox row28 rfl (HB2.out) rfl rfl rfl ?_))
  refine (card_is (b := true) (by rw [hok.out, hk.out]; rfl) (ThingsAt.lasts _ _ _ _ HT.out HG2.out)).mono ?_
  rintro e w3 ⟨rfl, hb3⟩
  have HG3 := Lib.hid (HG2.out.tr hb3)
  have HB3 := Lib.hid (HB2.out.grow hb3)
  have HU3 := Lib.hid (HU2.out.grow hb3)
  have hs3 := HS2.out.grow hb3
  have HS3 := Lib.hid hs3
  have s0 := hs3.cell (i := 0) rfl
  have s1 := hs3.cell (i := 1) rfl
  have sl := hs3.lt
  clear hb3 hs3
  rcases ht3 with lo | ⟨lo, ht3⟩
  · rcases ht4 with hi | ⟨hi, ht4⟩
    · have lo' := of_decide_eq_false lo
      have hi' := of_decide_eq_false hi
      rcases hf with rfl | ⟨rfl, e1, e2⟩
      · go_wp2_with (first | (with_reducible refine wpList_stopLoad (ty := 28) rfl ?_; unfold Stop; refine wpList_loadBox row28 rfl (HB3.out) rfl rfl rfl ?_))
        refine (seen_is h3.out (ThingsAt.lasts _ _ _ _ HT.out HG3.out)).mono ?_
        rintro e w4 ⟨rfl, hb4⟩
        have HG4 := Lib.hid ((HG3.out.tr hb4).tr (Gr.alloc w4 (Obj.cells #[.int .i64 (m : Nat)] 3)))
        have HB4 := Lib.hid ((HB3.out.grow hb4).grow (Gr.alloc w4 (Obj.cells #[.int .i64 (m : Nat)] 3)))
        have HU4 := Lib.hid ((HU3.out.grow hb4).grow (Gr.alloc w4 (Obj.cells #[.int .i64 (m : Nat)] 3)))
        have hs4 := (HS3.out.grow hb4).grow (Gr.alloc w4 (Obj.cells #[.int .i64 (m : Nat)] 3))
        have HM4 := Lib.hid (Box.fresh w4 [.int .i64 (m : Nat)] 3)
        have HS4 := Lib.hid hs4
        have s0 := ((HS3.out.grow hb4)).cell (i := 0) rfl
        have s1 := ((HS3.out.grow hb4)).cell (i := 1) rfl
        have sl := ((HS3.out.grow hb4)).lt
        clear hb4 hs4
        go_wp2_with fail
        refine (turned_is ht1.out hok.out hk.out hu.out hm (by omega) (ThingsAt.lasts _ _ _ _ HT.out HG4.out) HB4.out HU4.out HM4.out).mono ?_
        rintro e w5 ⟨rfl, hb5⟩
        have HG5 := Lib.hid (HG4.out.tr hb5)
        have HB5 := Lib.hid (HB4.out.grow hb5)
        have HU5 := Lib.hid (HU4.out.grow hb5)
        have HM5 := Lib.hid (HM4.out.grow hb5)
        have HS5 := Lib.hid (HS4.out.grow hb5)
        have s0 := HS5.out.cell (i := 0) rfl
        have s1 := HS5.out.cell (i := 1) rfl
        have sl := HS5.out.lt
        have cc11 := HB5.out.cell (i := 11) rfl
        have cc12 := HB5.out.cell (i := 12) rfl
        have ccl := HB5.out.lt
        clear hb5
        go_wp2_with fail
        refine (turned_is ht2.out hok.out hk.out hu.out hm (by omega) (ThingsAt.lasts _ _ _ _ HT.out HG5.out) HB5.out HU5.out HM5.out).mono ?_
        rintro e w6 ⟨rfl, hb6⟩
        have HG6 := Lib.hid (HG5.out.tr hb6)
        have HB6 := Lib.hid (HB5.out.grow hb6)
        have HU6 := Lib.hid (HU5.out.grow hb6)
        have HM6 := Lib.hid (HM5.out.grow hb6)
        have HS6 := Lib.hid (HS5.out.grow hb6)
        have s0 := HS6.out.cell (i := 0) rfl
        have s1 := HS6.out.cell (i := 1) rfl
        have sl := HS6.out.lt
        have cc11 := HB6.out.cell (i := 11) rfl
        have cc12 := HB6.out.cell (i := 12) rfl
        have ccl := HB6.out.lt
        clear hb6
        go_wp2_with fail
        refine (awake_any _).mono ?_
        rintro e w7 ⟨rfl, hb7⟩
        go_wp2
        exact bodyPost_ret (v := .bool true) (by simp [results, Tryz.results8, go_sem]) rfl ⟨rfl, HG6.out.tr hb7⟩
      · go_wp2_with (first | (with_reducible refine wpList_stopLoad (ty := 28) rfl ?_; unfold Stop; refine wpList_loadBox row28 rfl (HB3.out) rfl rfl rfl ?_))
        refine (seen_is h3.out (ThingsAt.lasts _ _ _ _ HT.out HG3.out)).mono ?_
        rintro e w4 ⟨rfl, hb4⟩
        have HG4 := Lib.hid ((HG3.out.tr hb4).tr (Gr.alloc w4 (Obj.cells #[.int .i64 (m : Nat)] 3)))
        have HB4 := Lib.hid ((HB3.out.grow hb4).grow (Gr.alloc w4 (Obj.cells #[.int .i64 (m : Nat)] 3)))
        have HU4 := Lib.hid ((HU3.out.grow hb4).grow (Gr.alloc w4 (Obj.cells #[.int .i64 (m : Nat)] 3)))
        have hs4 := (HS3.out.grow hb4).grow (Gr.alloc w4 (Obj.cells #[.int .i64 (m : Nat)] 3))
        have HM4 := Lib.hid (Box.fresh w4 [.int .i64 (m : Nat)] 3)
        have HS4 := Lib.hid hs4
        have s0 := ((HS3.out.grow hb4)).cell (i := 0) rfl
        have s1 := ((HS3.out.grow hb4)).cell (i := 1) rfl
        have sl := ((HS3.out.grow hb4)).lt
        clear hb4 hs4
        go_wp2_with fail
        refine (turned_is ht1.out hok.out hk.out hu.out hm (by omega) (ThingsAt.lasts _ _ _ _ HT.out HG4.out) HB4.out HU4.out HM4.out).mono ?_
        rintro e w5 ⟨rfl, hb5⟩
        have HG5 := Lib.hid (HG4.out.tr hb5)
        have HB5 := Lib.hid (HB4.out.grow hb5)
        have HU5 := Lib.hid (HU4.out.grow hb5)
        have HM5 := Lib.hid (HM4.out.grow hb5)
        have HS5 := Lib.hid (HS4.out.grow hb5)
        have s0 := HS5.out.cell (i := 0) rfl
        have s1 := HS5.out.cell (i := 1) rfl
        have sl := HS5.out.lt
        have cc11 := HB5.out.cell (i := 11) rfl
        have cc12 := HB5.out.cell (i := 12) rfl
        have ccl := HB5.out.lt
        clear hb5
        go_wp2_with fail
        refine (turned_is ht2.out hok.out hk.out hu.out hm (by omega) (ThingsAt.lasts _ _ _ _ HT.out HG5.out) HB5.out HU5.out HM5.out).mono ?_
        rintro e w6 ⟨rfl, hb6⟩
        have HG6 := Lib.hid (HG5.out.tr hb6)
        have HB6 := Lib.hid (HB5.out.grow hb6)
        have HU6 := Lib.hid (HU5.out.grow hb6)
        have HM6 := Lib.hid (HM5.out.grow hb6)
        have HS6 := Lib.hid (HS5.out.grow hb6)
        have s0 := HS6.out.cell (i := 0) rfl
        have s1 := HS6.out.cell (i := 1) rfl
        have sl := HS6.out.lt
        have cc11 := HB6.out.cell (i := 11) rfl
        have cc12 := HB6.out.cell (i := 12) rfl
        have ccl := HB6.out.lt
        clear hb6
        go_wp2_with fail
        refine (awake_any _).mono ?_
        rintro e w7 ⟨rfl, hb7⟩
        go_wp2
        exact bodyPost_ret (v := .bool true) (by simp [results, Tryz.results8, go_sem]) rfl ⟨rfl, HG6.out.tr hb7⟩
    · have lo' := of_decide_eq_false lo
      have hi' := of_decide_eq_true hi
      rcases hf with rfl | ⟨rfl, e1, e2⟩
      · go_wp2_with (first | (with_reducible refine wpList_stopLoad (ty := 28) rfl ?_; unfold Stop; refine wpList_loadBox row28 rfl (HB3.out) rfl rfl rfl ?_))
        refine (seen_is h3.out (ThingsAt.lasts _ _ _ _ HT.out HG3.out)).mono ?_
        rintro e w4 ⟨rfl, hb4⟩
        have HG4 := Lib.hid ((HG3.out.tr hb4).tr (Gr.alloc w4 (Obj.cells #[.int .i64 (m : Nat)] 3)))
        have HB4 := Lib.hid ((HB3.out.grow hb4).grow (Gr.alloc w4 (Obj.cells #[.int .i64 (m : Nat)] 3)))
        have HU4 := Lib.hid ((HU3.out.grow hb4).grow (Gr.alloc w4 (Obj.cells #[.int .i64 (m : Nat)] 3)))
        have hs4 := (HS3.out.grow hb4).grow (Gr.alloc w4 (Obj.cells #[.int .i64 (m : Nat)] 3))
        have HM4 := Lib.hid (Box.fresh w4 [.int .i64 (m : Nat)] 3)
        have HS4 := Lib.hid hs4
        have s0 := ((HS3.out.grow hb4)).cell (i := 0) rfl
        have s1 := ((HS3.out.grow hb4)).cell (i := 1) rfl
        have sl := ((HS3.out.grow hb4)).lt
        clear hb4 hs4
        go_wp2_with fail
        refine (turned_is ht1.out hok.out hk.out hu.out hm (by omega) (ThingsAt.lasts _ _ _ _ HT.out HG4.out) HB4.out HU4.out HM4.out).mono ?_
        rintro e w5 ⟨rfl, hb5⟩
        have HG5 := Lib.hid (HG4.out.tr hb5)
        have HB5 := Lib.hid (HB4.out.grow hb5)
        have HU5 := Lib.hid (HU4.out.grow hb5)
        have HM5 := Lib.hid (HM4.out.grow hb5)
        have HS5 := Lib.hid (HS4.out.grow hb5)
        have s0 := HS5.out.cell (i := 0) rfl
        have s1 := HS5.out.cell (i := 1) rfl
        have sl := HS5.out.lt
        have cc11 := HB5.out.cell (i := 11) rfl
        have cc12 := HB5.out.cell (i := 12) rfl
        have ccl := HB5.out.lt
        clear hb5
        go_wp2_with fail
        refine (turned_is ht2.out hok.out hk.out hu.out hm (by omega) (ThingsAt.lasts _ _ _ _ HT.out HG5.out) HB5.out HU5.out HM5.out).mono ?_
        rintro e w6 ⟨rfl, hb6⟩
        have HG6 := Lib.hid (HG5.out.tr hb6)
        have HB6 := Lib.hid (HB5.out.grow hb6)
        have HU6 := Lib.hid (HU5.out.grow hb6)
        have HM6 := Lib.hid (HM5.out.grow hb6)
        have HS6 := Lib.hid (HS5.out.grow hb6)
        have s0 := HS6.out.cell (i := 0) rfl
        have s1 := HS6.out.cell (i := 1) rfl
        have sl := HS6.out.lt
        have cc11 := HB6.out.cell (i := 11) rfl
        have cc12 := HB6.out.cell (i := 12) rfl
        have ccl := HB6.out.lt
        clear hb6
        go_wp2_with fail
        refine (turned_is ht4.out hok.out hk.out hu.out hm (by omega) (ThingsAt.lasts _ _ _ _ HT.out HG6.out) HB6.out HU6.out HM6.out).mono ?_
        rintro e w7 ⟨rfl, hb7⟩
        have HG7 := Lib.hid (HG6.out.tr hb7)
        have HB7 := Lib.hid (HB6.out.grow hb7)
        have HU7 := Lib.hid (HU6.out.grow hb7)
        have HM7 := Lib.hid (HM6.out.grow hb7)
        have HS7 := Lib.hid (HS6.out.grow hb7)
        have s0 := HS7.out.cell (i := 0) rfl
        have s1 := HS7.out.cell (i := 1) rfl
        have sl := HS7.out.lt
        have cc11 := HB7.out.cell (i := 11) rfl
        have cc12 := HB7.out.cell (i := 12) rfl
        have ccl := HB7.out.lt
        clear hb7
        go_wp2_with fail
        refine (awake_any _).mono ?_
        rintro e w8 ⟨rfl, hb8⟩
        go_wp2
        exact bodyPost_ret (v := .bool true) (by simp [results, Tryz.results8, go_sem]) rfl ⟨rfl, HG7.out.tr hb8⟩
      · go_wp2_with (first | (with_reducible refine wpList_stopLoad (ty := 28) rfl ?_; unfold Stop; refine wpList_loadBox row28 rfl (HB3.out) rfl rfl rfl ?_))
        refine (seen_is h3.out (ThingsAt.lasts _ _ _ _ HT.out HG3.out)).mono ?_
        rintro e w4 ⟨rfl, hb4⟩
        have HG4 := Lib.hid ((HG3.out.tr hb4).tr (Gr.alloc w4 (Obj.cells #[.int .i64 (m : Nat)] 3)))
        have HB4 := Lib.hid ((HB3.out.grow hb4).grow (Gr.alloc w4 (Obj.cells #[.int .i64 (m : Nat)] 3)))
        have HU4 := Lib.hid ((HU3.out.grow hb4).grow (Gr.alloc w4 (Obj.cells #[.int .i64 (m : Nat)] 3)))
        have hs4 := (HS3.out.grow hb4).grow (Gr.alloc w4 (Obj.cells #[.int .i64 (m : Nat)] 3))
        have HM4 := Lib.hid (Box.fresh w4 [.int .i64 (m : Nat)] 3)
        have HS4 := Lib.hid hs4
        have s0 := ((HS3.out.grow hb4)).cell (i := 0) rfl
        have s1 := ((HS3.out.grow hb4)).cell (i := 1) rfl
        have sl := ((HS3.out.grow hb4)).lt
        clear hb4 hs4
        go_wp2_with fail
        refine (turned_is ht1.out hok.out hk.out hu.out hm (by omega) (ThingsAt.lasts _ _ _ _ HT.out HG4.out) HB4.out HU4.out HM4.out).mono ?_
        rintro e w5 ⟨rfl, hb5⟩
        have HG5 := Lib.hid (HG4.out.tr hb5)
        have HB5 := Lib.hid (HB4.out.grow hb5)
        have HU5 := Lib.hid (HU4.out.grow hb5)
        have HM5 := Lib.hid (HM4.out.grow hb5)
        have HS5 := Lib.hid (HS4.out.grow hb5)
        have s0 := HS5.out.cell (i := 0) rfl
        have s1 := HS5.out.cell (i := 1) rfl
        have sl := HS5.out.lt
        have cc11 := HB5.out.cell (i := 11) rfl
        have cc12 := HB5.out.cell (i := 12) rfl
        have ccl := HB5.out.lt
        clear hb5
        go_wp2_with fail
        refine (turned_is ht2.out hok.out hk.out hu.out hm (by omega) (ThingsAt.lasts _ _ _ _ HT.out HG5.out) HB5.out HU5.out HM5.out).mono ?_
        rintro e w6 ⟨rfl, hb6⟩
        have HG6 := Lib.hid (HG5.out.tr hb6)
        have HB6 := Lib.hid (HB5.out.grow hb6)
        have HU6 := Lib.hid (HU5.out.grow hb6)
        have HM6 := Lib.hid (HM5.out.grow hb6)
        have HS6 := Lib.hid (HS5.out.grow hb6)
        have s0 := HS6.out.cell (i := 0) rfl
        have s1 := HS6.out.cell (i := 1) rfl
        have sl := HS6.out.lt
        have cc11 := HB6.out.cell (i := 11) rfl
        have cc12 := HB6.out.cell (i := 12) rfl
        have ccl := HB6.out.lt
        clear hb6
        go_wp2_with fail
        refine (turned_is ht4.out hok.out hk.out hu.out hm (by omega) (ThingsAt.lasts _ _ _ _ HT.out HG6.out) HB6.out HU6.out HM6.out).mono ?_
        rintro e w7 ⟨rfl, hb7⟩
        have HG7 := Lib.hid (HG6.out.tr hb7)
        have HB7 := Lib.hid (HB6.out.grow hb7)
        have HU7 := Lib.hid (HU6.out.grow hb7)
        have HM7 := Lib.hid (HM6.out.grow hb7)
        have HS7 := Lib.hid (HS6.out.grow hb7)
        have s0 := HS7.out.cell (i := 0) rfl
        have s1 := HS7.out.cell (i := 1) rfl
        have sl := HS7.out.lt
        have cc11 := HB7.out.cell (i := 11) rfl
        have cc12 := HB7.out.cell (i := 12) rfl
        have ccl := HB7.out.lt
        clear hb7
        go_wp2_with fail
        refine (awake_any _).mono ?_
        rintro e w8 ⟨rfl, hb8⟩
        go_wp2
        exact bodyPost_ret (v := .bool true) (by simp [results, Tryz.results8, go_sem]) rfl ⟨rfl, HG7.out.tr hb8⟩
  · rcases ht4 with hi | ⟨hi, ht4⟩
    · have lo' := of_decide_eq_true lo
      have hi' := of_decide_eq_false hi
      rcases hf with rfl | ⟨rfl, e1, e2⟩
      · go_wp2_with (first | (with_reducible refine wpList_stopLoad (ty := 28) rfl ?_; unfold Stop; refine wpList_loadBox row28 rfl (HB3.out) rfl rfl rfl ?_))
        refine (seen_is h3.out (ThingsAt.lasts _ _ _ _ HT.out HG3.out)).mono ?_
        rintro e w4 ⟨rfl, hb4⟩
        have HG4 := Lib.hid ((HG3.out.tr hb4).tr (Gr.alloc w4 (Obj.cells #[.int .i64 (m : Nat)] 3)))
        have HB4 := Lib.hid ((HB3.out.grow hb4).grow (Gr.alloc w4 (Obj.cells #[.int .i64 (m : Nat)] 3)))
        have HU4 := Lib.hid ((HU3.out.grow hb4).grow (Gr.alloc w4 (Obj.cells #[.int .i64 (m : Nat)] 3)))
        have hs4 := (HS3.out.grow hb4).grow (Gr.alloc w4 (Obj.cells #[.int .i64 (m : Nat)] 3))
        have HM4 := Lib.hid (Box.fresh w4 [.int .i64 (m : Nat)] 3)
        have HS4 := Lib.hid hs4
        have s0 := ((HS3.out.grow hb4)).cell (i := 0) rfl
        have s1 := ((HS3.out.grow hb4)).cell (i := 1) rfl
        have sl := ((HS3.out.grow hb4)).lt
        clear hb4 hs4
        go_wp2_with fail
        refine (turned_is ht1.out hok.out hk.out hu.out hm (by omega) (ThingsAt.lasts _ _ _ _ HT.out HG4.out) HB4.out HU4.out HM4.out).mono ?_
        rintro e w5 ⟨rfl, hb5⟩
        have HG5 := Lib.hid (HG4.out.tr hb5)
        have HB5 := Lib.hid (HB4.out.grow hb5)
        have HU5 := Lib.hid (HU4.out.grow hb5)
        have HM5 := Lib.hid (HM4.out.grow hb5)
        have HS5 := Lib.hid (HS4.out.grow hb5)
        have s0 := HS5.out.cell (i := 0) rfl
        have s1 := HS5.out.cell (i := 1) rfl
        have sl := HS5.out.lt
        have cc11 := HB5.out.cell (i := 11) rfl
        have cc12 := HB5.out.cell (i := 12) rfl
        have ccl := HB5.out.lt
        clear hb5
        go_wp2_with fail
        refine (turned_is ht2.out hok.out hk.out hu.out hm (by omega) (ThingsAt.lasts _ _ _ _ HT.out HG5.out) HB5.out HU5.out HM5.out).mono ?_
        rintro e w6 ⟨rfl, hb6⟩
        have HG6 := Lib.hid (HG5.out.tr hb6)
        have HB6 := Lib.hid (HB5.out.grow hb6)
        have HU6 := Lib.hid (HU5.out.grow hb6)
        have HM6 := Lib.hid (HM5.out.grow hb6)
        have HS6 := Lib.hid (HS5.out.grow hb6)
        have s0 := HS6.out.cell (i := 0) rfl
        have s1 := HS6.out.cell (i := 1) rfl
        have sl := HS6.out.lt
        have cc11 := HB6.out.cell (i := 11) rfl
        have cc12 := HB6.out.cell (i := 12) rfl
        have ccl := HB6.out.lt
        clear hb6
        go_wp2_with fail
        refine (turned_is ht3.out hok.out hk.out hu.out hm (by omega) (ThingsAt.lasts _ _ _ _ HT.out HG6.out) HB6.out HU6.out HM6.out).mono ?_
        rintro e w7 ⟨rfl, hb7⟩
        have HG7 := Lib.hid (HG6.out.tr hb7)
        have HB7 := Lib.hid (HB6.out.grow hb7)
        have HU7 := Lib.hid (HU6.out.grow hb7)
        have HM7 := Lib.hid (HM6.out.grow hb7)
        have HS7 := Lib.hid (HS6.out.grow hb7)
        have s0 := HS7.out.cell (i := 0) rfl
        have s1 := HS7.out.cell (i := 1) rfl
        have sl := HS7.out.lt
        have cc11 := HB7.out.cell (i := 11) rfl
        have cc12 := HB7.out.cell (i := 12) rfl
        have ccl := HB7.out.lt
        clear hb7
        go_wp2_with fail
        refine (awake_any _).mono ?_
        rintro e w8 ⟨rfl, hb8⟩
        go_wp2
        exact bodyPost_ret (v := .bool true) (by simp [results, Tryz.results8, go_sem]) rfl ⟨rfl, HG7.out.tr hb8⟩
      · go_wp2_with (first | (with_reducible refine wpList_stopLoad (ty := 28) rfl ?_; unfold Stop; refine wpList_loadBox row28 rfl (HB3.out) rfl rfl rfl ?_))
        refine (seen_is h3.out (ThingsAt.lasts _ _ _ _ HT.out HG3.out)).mono ?_
        rintro e w4 ⟨rfl, hb4⟩
        have HG4 := Lib.hid ((HG3.out.tr hb4).tr (Gr.alloc w4 (Obj.cells #[.int .i64 (m : Nat)] 3)))
        have HB4 := Lib.hid ((HB3.out.grow hb4).grow (Gr.alloc w4 (Obj.cells #[.int .i64 (m : Nat)] 3)))
        have HU4 := Lib.hid ((HU3.out.grow hb4).grow (Gr.alloc w4 (Obj.cells #[.int .i64 (m : Nat)] 3)))
        have hs4 := (HS3.out.grow hb4).grow (Gr.alloc w4 (Obj.cells #[.int .i64 (m : Nat)] 3))
        have HM4 := Lib.hid (Box.fresh w4 [.int .i64 (m : Nat)] 3)
        have HS4 := Lib.hid hs4
        have s0 := ((HS3.out.grow hb4)).cell (i := 0) rfl
        have s1 := ((HS3.out.grow hb4)).cell (i := 1) rfl
        have sl := ((HS3.out.grow hb4)).lt
        clear hb4 hs4
        go_wp2_with fail
        refine (turned_is ht1.out hok.out hk.out hu.out hm (by omega) (ThingsAt.lasts _ _ _ _ HT.out HG4.out) HB4.out HU4.out HM4.out).mono ?_
        rintro e w5 ⟨rfl, hb5⟩
        have HG5 := Lib.hid (HG4.out.tr hb5)
        have HB5 := Lib.hid (HB4.out.grow hb5)
        have HU5 := Lib.hid (HU4.out.grow hb5)
        have HM5 := Lib.hid (HM4.out.grow hb5)
        have HS5 := Lib.hid (HS4.out.grow hb5)
        have s0 := HS5.out.cell (i := 0) rfl
        have s1 := HS5.out.cell (i := 1) rfl
        have sl := HS5.out.lt
        have cc11 := HB5.out.cell (i := 11) rfl
        have cc12 := HB5.out.cell (i := 12) rfl
        have ccl := HB5.out.lt
        clear hb5
        go_wp2_with fail
        refine (turned_is ht2.out hok.out hk.out hu.out hm (by omega) (ThingsAt.lasts _ _ _ _ HT.out HG5.out) HB5.out HU5.out HM5.out).mono ?_
        rintro e w6 ⟨rfl, hb6⟩
        have HG6 := Lib.hid (HG5.out.tr hb6)
        have HB6 := Lib.hid (HB5.out.grow hb6)
        have HU6 := Lib.hid (HU5.out.grow hb6)
        have HM6 := Lib.hid (HM5.out.grow hb6)
        have HS6 := Lib.hid (HS5.out.grow hb6)
        have s0 := HS6.out.cell (i := 0) rfl
        have s1 := HS6.out.cell (i := 1) rfl
        have sl := HS6.out.lt
        have cc11 := HB6.out.cell (i := 11) rfl
        have cc12 := HB6.out.cell (i := 12) rfl
        have ccl := HB6.out.lt
        clear hb6
        go_wp2_with fail
        refine (turned_is ht3.out hok.out hk.out hu.out hm (by omega) (ThingsAt.lasts _ _ _ _ HT.out HG6.out) HB6.out HU6.out HM6.out).mono ?_
        rintro e w7 ⟨rfl, hb7⟩
        have HG7 := Lib.hid (HG6.out.tr hb7)
        have HB7 := Lib.hid (HB6.out.grow hb7)
        have HU7 := Lib.hid (HU6.out.grow hb7)
        have HM7 := Lib.hid (HM6.out.grow hb7)
        have HS7 := Lib.hid (HS6.out.grow hb7)
        have s0 := HS7.out.cell (i := 0) rfl
        have s1 := HS7.out.cell (i := 1) rfl
        have sl := HS7.out.lt
        have cc11 := HB7.out.cell (i := 11) rfl
        have cc12 := HB7.out.cell (i := 12) rfl
        have ccl := HB7.out.lt
        clear hb7
        go_wp2_with fail
        refine (awake_any _).mono ?_
        rintro e w8 ⟨rfl, hb8⟩
        go_wp2
        exact bodyPost_ret (v := .bool true) (by simp [results, Tryz.results8, go_sem]) rfl ⟨rfl, HG7.out.tr hb8⟩
    · have lo' := of_decide_eq_true lo
      have hi' := of_decide_eq_true hi
      rcases hf with rfl | ⟨rfl, e1, e2⟩
      · go_wp2_with (first | (with_reducible refine wpList_stopLoad (ty := 28) rfl ?_; unfold Stop; refine wpList_loadBox row28 rfl (HB3.out) rfl rfl rfl ?_))
        refine (seen_is h3.out (ThingsAt.lasts _ _ _ _ HT.out HG3.out)).mono ?_
        rintro e w4 ⟨rfl, hb4⟩
        have HG4 := Lib.hid ((HG3.out.tr hb4).tr (Gr.alloc w4 (Obj.cells #[.int .i64 (m : Nat)] 3)))
        have HB4 := Lib.hid ((HB3.out.grow hb4).grow (Gr.alloc w4 (Obj.cells #[.int .i64 (m : Nat)] 3)))
        have HU4 := Lib.hid ((HU3.out.grow hb4).grow (Gr.alloc w4 (Obj.cells #[.int .i64 (m : Nat)] 3)))
        have hs4 := (HS3.out.grow hb4).grow (Gr.alloc w4 (Obj.cells #[.int .i64 (m : Nat)] 3))
        have HM4 := Lib.hid (Box.fresh w4 [.int .i64 (m : Nat)] 3)
        have HS4 := Lib.hid hs4
        have s0 := ((HS3.out.grow hb4)).cell (i := 0) rfl
        have s1 := ((HS3.out.grow hb4)).cell (i := 1) rfl
        have sl := ((HS3.out.grow hb4)).lt
        clear hb4 hs4
        go_wp2_with fail
        refine (turned_is ht1.out hok.out hk.out hu.out hm (by omega) (ThingsAt.lasts _ _ _ _ HT.out HG4.out) HB4.out HU4.out HM4.out).mono ?_
        rintro e w5 ⟨rfl, hb5⟩
        have HG5 := Lib.hid (HG4.out.tr hb5)
        have HB5 := Lib.hid (HB4.out.grow hb5)
        have HU5 := Lib.hid (HU4.out.grow hb5)
        have HM5 := Lib.hid (HM4.out.grow hb5)
        have HS5 := Lib.hid (HS4.out.grow hb5)
        have s0 := HS5.out.cell (i := 0) rfl
        have s1 := HS5.out.cell (i := 1) rfl
        have sl := HS5.out.lt
        have cc11 := HB5.out.cell (i := 11) rfl
        have cc12 := HB5.out.cell (i := 12) rfl
        have ccl := HB5.out.lt
        clear hb5
        go_wp2_with fail
        refine (turned_is ht2.out hok.out hk.out hu.out hm (by omega) (ThingsAt.lasts _ _ _ _ HT.out HG5.out) HB5.out HU5.out HM5.out).mono ?_
        rintro e w6 ⟨rfl, hb6⟩
        have HG6 := Lib.hid (HG5.out.tr hb6)
        have HB6 := Lib.hid (HB5.out.grow hb6)
        have HU6 := Lib.hid (HU5.out.grow hb6)
        have HM6 := Lib.hid (HM5.out.grow hb6)
        have HS6 := Lib.hid (HS5.out.grow hb6)
        have s0 := HS6.out.cell (i := 0) rfl
        have s1 := HS6.out.cell (i := 1) rfl
        have sl := HS6.out.lt
        have cc11 := HB6.out.cell (i := 11) rfl
        have cc12 := HB6.out.cell (i := 12) rfl
        have ccl := HB6.out.lt
        clear hb6
        go_wp2_with fail
        refine (turned_is ht3.out hok.out hk.out hu.out hm (by omega) (ThingsAt.lasts _ _ _ _ HT.out HG6.out) HB6.out HU6.out HM6.out).mono ?_
        rintro e w7 ⟨rfl, hb7⟩
        have HG7 := Lib.hid (HG6.out.tr hb7)
        have HB7 := Lib.hid (HB6.out.grow hb7)
        have HU7 := Lib.hid (HU6.out.grow hb7)
        have HM7 := Lib.hid (HM6.out.grow hb7)
        have HS7 := Lib.hid (HS6.out.grow hb7)
        have s0 := HS7.out.cell (i := 0) rfl
        have s1 := HS7.out.cell (i := 1) rfl
        have sl := HS7.out.lt
        have cc11 := HB7.out.cell (i := 11) rfl
        have cc12 := HB7.out.cell (i := 12) rfl
        have ccl := HB7.out.lt
        clear hb7
        go_wp2_with fail
        refine (turned_is ht4.out hok.out hk.out hu.out hm (by omega) (ThingsAt.lasts _ _ _ _ HT.out HG7.out) HB7.out HU7.out HM7.out).mono ?_
        rintro e w8 ⟨rfl, hb8⟩
        have HG8 := Lib.hid (HG7.out.tr hb8)
        have HB8 := Lib.hid (HB7.out.grow hb8)
        have HU8 := Lib.hid (HU7.out.grow hb8)
        have HM8 := Lib.hid (HM7.out.grow hb8)
        have HS8 := Lib.hid (HS7.out.grow hb8)
        have s0 := HS8.out.cell (i := 0) rfl
        have s1 := HS8.out.cell (i := 1) rfl
        have sl := HS8.out.lt
        have cc11 := HB8.out.cell (i := 11) rfl
        have cc12 := HB8.out.cell (i := 12) rfl
        have ccl := HB8.out.lt
        clear hb8
        go_wp2_with fail
        refine (awake_any _).mono ?_
        rintro e w9 ⟨rfl, hb9⟩
        go_wp2
        exact bodyPost_ret (v := .bool true) (by simp [results, Tryz.results8, go_sem]) rfl ⟨rfl, HG8.out.tr hb9⟩
      · go_wp2_with (first | (with_reducible refine wpList_stopLoad (ty := 28) rfl ?_; unfold Stop; refine wpList_loadBox row28 rfl (HB3.out) rfl rfl rfl ?_))
        refine (seen_is h3.out (ThingsAt.lasts _ _ _ _ HT.out HG3.out)).mono ?_
        rintro e w4 ⟨rfl, hb4⟩
        have HG4 := Lib.hid ((HG3.out.tr hb4).tr (Gr.alloc w4 (Obj.cells #[.int .i64 (m : Nat)] 3)))
        have HB4 := Lib.hid ((HB3.out.grow hb4).grow (Gr.alloc w4 (Obj.cells #[.int .i64 (m : Nat)] 3)))
        have HU4 := Lib.hid ((HU3.out.grow hb4).grow (Gr.alloc w4 (Obj.cells #[.int .i64 (m : Nat)] 3)))
        have hs4 := (HS3.out.grow hb4).grow (Gr.alloc w4 (Obj.cells #[.int .i64 (m : Nat)] 3))
        have HM4 := Lib.hid (Box.fresh w4 [.int .i64 (m : Nat)] 3)
        have HS4 := Lib.hid hs4
        have s0 := ((HS3.out.grow hb4)).cell (i := 0) rfl
        have s1 := ((HS3.out.grow hb4)).cell (i := 1) rfl
        have sl := ((HS3.out.grow hb4)).lt
        clear hb4 hs4
        go_wp2_with fail
        refine (turned_is ht1.out hok.out hk.out hu.out hm (by omega) (ThingsAt.lasts _ _ _ _ HT.out HG4.out) HB4.out HU4.out HM4.out).mono ?_
        rintro e w5 ⟨rfl, hb5⟩
        have HG5 := Lib.hid (HG4.out.tr hb5)
        have HB5 := Lib.hid (HB4.out.grow hb5)
        have HU5 := Lib.hid (HU4.out.grow hb5)
        have HM5 := Lib.hid (HM4.out.grow hb5)
        have HS5 := Lib.hid (HS4.out.grow hb5)
        have s0 := HS5.out.cell (i := 0) rfl
        have s1 := HS5.out.cell (i := 1) rfl
        have sl := HS5.out.lt
        have cc11 := HB5.out.cell (i := 11) rfl
        have cc12 := HB5.out.cell (i := 12) rfl
        have ccl := HB5.out.lt
        clear hb5
        go_wp2_with fail
        refine (turned_is ht2.out hok.out hk.out hu.out hm (by omega) (ThingsAt.lasts _ _ _ _ HT.out HG5.out) HB5.out HU5.out HM5.out).mono ?_
        rintro e w6 ⟨rfl, hb6⟩
        have HG6 := Lib.hid (HG5.out.tr hb6)
        have HB6 := Lib.hid (HB5.out.grow hb6)
        have HU6 := Lib.hid (HU5.out.grow hb6)
        have HM6 := Lib.hid (HM5.out.grow hb6)
        have HS6 := Lib.hid (HS5.out.grow hb6)
        have s0 := HS6.out.cell (i := 0) rfl
        have s1 := HS6.out.cell (i := 1) rfl
        have sl := HS6.out.lt
        have cc11 := HB6.out.cell (i := 11) rfl
        have cc12 := HB6.out.cell (i := 12) rfl
        have ccl := HB6.out.lt
        clear hb6
        go_wp2_with fail
        refine (turned_is ht3.out hok.out hk.out hu.out hm (by omega) (ThingsAt.lasts _ _ _ _ HT.out HG6.out) HB6.out HU6.out HM6.out).mono ?_
        rintro e w7 ⟨rfl, hb7⟩
        have HG7 := Lib.hid (HG6.out.tr hb7)
        have HB7 := Lib.hid (HB6.out.grow hb7)
        have HU7 := Lib.hid (HU6.out.grow hb7)
        have HM7 := Lib.hid (HM6.out.grow hb7)
        have HS7 := Lib.hid (HS6.out.grow hb7)
        have s0 := HS7.out.cell (i := 0) rfl
        have s1 := HS7.out.cell (i := 1) rfl
        have sl := HS7.out.lt
        have cc11 := HB7.out.cell (i := 11) rfl
        have cc12 := HB7.out.cell (i := 12) rfl
        have ccl := HB7.out.lt
        clear hb7
        go_wp2_with fail
        refine (turned_is ht4.out hok.out hk.out hu.out hm (by omega) (ThingsAt.lasts _ _ _ _ HT.out HG7.out) HB7.out HU7.out HM7.out).mono ?_
        rintro e w8 ⟨rfl, hb8⟩
        have HG8 := Lib.hid (HG7.out.tr hb8)
        have HB8 := Lib.hid (HB7.out.grow hb8)
        have HU8 := Lib.hid (HU7.out.grow hb8)
        have HM8 := Lib.hid (HM7.out.grow hb8)
        have HS8 := Lib.hid (HS7.out.grow hb8)
        have s0 := HS8.out.cell (i := 0) rfl
        have s1 := HS8.out.cell (i := 1) rfl
        have sl := HS8.out.lt
        have cc11 := HB8.out.cell (i := 11) rfl
        have cc12 := HB8.out.cell (i := 12) rfl
        have ccl := HB8.out.lt
        clear hb8
        go_wp2_with fail
        refine (awake_any _).mono ?_
        rintro e w9 ⟨rfl, hb9⟩
        go_wp2
        exact bodyPost_ret (v := .bool true) (by simp [results, Tryz.results8, go_sem]) rfl ⟨rfl, HG8.out.tr hb9⟩
end Go.Proofs.YtcngaohfemdfjaaGreat
