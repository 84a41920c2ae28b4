import Derived.Test.YtcngaohfemdfjaaGreatY34
import Derived.Test.YtcngaohfemdfjaaGreatY33
import Derived.Test.YtcngaohfemdfjaaGreatX44
import Derived.Test.YtcngaohfemdfjaaGreatX47a
import Derived.Test.YtcngaohfemdfjaaGreatX45
import Derived.Test.YtcngaohfemdfjaaGreatX51
import Derived.RegionTactic
import Derived.Deep.RegionWith
import Derived.Deep.CutBlock
import Derived.Deep.DeepCutAuto
set_option linter.unusedVariables false
set_option linter.unusedSimpArgs false
namespace Go.Proofs.YtcngaohfemdfjaaGreat
open Go.RowKit
set_option maxRecDepth 100000 in
set_option maxHeartbeats 16000000 in
theorem lwhy_win (k : Cd) (b o len cap : Nat) (w : World) (hl : k.p.l.length ≤ 40) (hT : ThingsAt k.p.l (.slice k.sp k.p.l.length k.cap) w) (hy : ByIn b o len w) (hc : Hid ((k.okc && k.p.ok) = true)) (hn : k.cuts ≤ 20) (i j m : Nat) (hi : i < k.p.l.length) (hj : j < k.p.l.length) (hw : Hid (k.whyA = (2, (i : Int), (j : Int), 11))) (ht : Hid (k.trimA = (⟨0, 0, 0, 0⟩, 11))) (hs : Hid (k.seenA = (((m : Nat) : Int), 0))) (xl xh yl yh : Int) (hx : Hid (k.p.shift i = (xl, xh, 0))) (hy' : Hid (k.p.shift j = (yl, yh, 0)))
    (bi : Hid (bits BinOp.and IntKind.i64 ((m : Int) / 2 ^ i) 1 = 1)) (bj : Hid (bits BinOp.and IntKind.i64 ((m : Int) / 2 ^ j) 1 = 1)) (hb1' : -8000 ≤ xh ∧ xh ≤ 8000) (hb2' : -8000 ≤ yl ∧ yl ≤ 8000) (hk : k.okc = true) (k0 : 0 ≤ k.cuts ∧ k.cuts ≤ 40) (hord : Hid (∀ wn : Int, decide (wn + k.front < xh) = true ∨ (decide (wn + k.front < xh) = false ∧ decide (yl < wn - k.deep) = true))) :
    Calls Tryz.prog 7 #[.agg k.cs.toArray, .slice (some ⟨b, o, none⟩) len cap] w fun e w' => e = .returned (.bool true) ∧ Below w.heap.size w w' := by
  have i0 : decide ((i : Int) < 0) = false := by simp
  have j0 : decide ((j : Int) < 0) = false := by simp
  have i1 : decide ((k.p.l.length : Int) ≤ (i : Int)) = false := by simp; omega
  have j1 : decide ((k.p.l.length : Int) ≤ (j : Int)) = false := by simp; omega
  have i2 : i < 64 := by omega
  have j2 : j < 64 := by omega
  have d : decide (40 < (k.p.l.length : Int)) = false := by simp; omega
  have d' : decide (40 < k.p.l.length) = false := by simp; omega
  have x1 : ((len : Int) == 0) = false := by have := hy.1; simp; omega
  have x2 : (len == 0) = false := by have := hy.1; simp; omega
  have y1 : decide (20 < k.cuts) = false := by simpa using hn
  have HT := Lib.hid hT
  have HY := Lib.hid hy
  clear hl hT hy
  have p7 : ∀ h : 7 < k.cs.length, k.cs[7] = .slice k.sp k.p.l.length k.cap := fun _ => rfl
  have p10 : ∀ h : 10 < k.cs.length, k.cs[10] = .int .i64 k.cuts := fun _ => rfl
  have hl : k.cs.length = 17 := rfl
  have HB := Lib.hid (Box.fresh w k.cs 28)
  go_enter Tryz.func7, Tryz.ntmps7
  go_wp2_with (first | (with_reducible refine wpList_stopLoad (ty := 28) rfl ?_; unfold Stop; first | refine wpList_loadBox row28 rfl (HB.out) rfl rfl rfl ?_ | refine wpList_loadPartW row28 rfl (HB.out) (Cd.wholeW k) rfl rfl rfl ?_))
  refine (card_is (b := true) hc.out (ThingsAt.lasts _ _ _ _ HT.out (Gr.alloc _ _))).mono ?_
  rintro e w1 ⟨rfl, hb1⟩
  have HB1 := Lib.hid (HB.out.grow hb1)
  have hc10 := HB1.out.cell (i := 10) rfl
  have hcl := HB1.out.lt
  have HG1 := Lib.hid ((Gr.alloc w (Obj.cells k.cs.toArray 28)).tr hb1)
  clear hb1
  go_wp2_with (first | (with_reducible refine wpList_stopLoad (ty := 28) rfl ?_; unfold Stop; first | refine wpList_loadBox row28 rfl (HB1.out) rfl rfl rfl ?_ | refine wpList_loadPartW row28 rfl (HB1.out) (Cd.wholeW k) rfl rfl rfl ?_))
  refine (mwhy_is hw.out (ThingsAt.lasts _ _ _ _ HT.out HG1.out)).mono ?_
  rintro e w2 ⟨rfl, hb2⟩
  have HB2 := Lib.hid (HB1.out.grow hb2)
  have HG2 := Lib.hid (HG1.out.tr hb2)
  clear hb2 hc10 hcl
  go_wp2_with (first | (with_reducible refine wpList_stopLoad (ty := 28) rfl ?_; unfold Stop; first | refine wpList_loadBox row28 rfl (HB2.out) rfl rfl rfl ?_ | refine wpList_loadPartW row28 rfl (HB2.out) (Cd.wholeW k) rfl rfl rfl ?_))
  refine (mtrim_is ht.out (ThingsAt.lasts _ _ _ _ HT.out HG2.out)).mono ?_
  rintro e w3 ⟨rfl, hb3⟩
  have HB3 := Lib.hid ((HB2.out.grow hb3).grow (Gr.alloc w3 (Obj.cells #[.int .i64 0, .int .i64 0, .int .i64 0, .int .i64 0] 30)))
  have HG3 := Lib.hid ((HG2.out.tr hb3).tr (Gr.alloc w3 (Obj.cells #[.int .i64 0, .int .i64 0, .int .i64 0, .int .i64 0] 30)))
  clear hb3
  have c7 := HB3.out.cell (i := 7) rfl
  have ccl := HB3.out.lt
  go_wp2_with (first | (with_reducible refine wpList_stopLoad (ty := 28) rfl ?_; unfold Stop; first | refine wpList_loadBox row28 rfl (HB3.out) rfl rfl rfl ?_ | refine wpList_loadPartW row28 rfl (HB3.out) (Cd.wholeW k) rfl rfl rfl ?_))
  refine (seen_is hs.out (ThingsAt.lasts _ _ _ _ HT.out HG3.out)).mono ?_
  rintro e w4 ⟨rfl, hb4⟩
  have HB4 := Lib.hid (HB3.out.grow hb4)
  have HG4 := Lib.hid (HG3.out.tr hb4)
  clear hb4 c7 ccl
  have hcb := HB4.out
  have c0 := hcb.cell (i := 0) rfl
  have c1 := hcb.cell (i := 1) rfl
  have c2 := hcb.cell (i := 2) rfl
  have c3 := hcb.cell (i := 3) rfl
  have c4 := hcb.cell (i := 4) rfl
  have c5 := hcb.cell (i := 5) rfl
  have c6 := hcb.cell (i := 6) rfl
  have c7 := hcb.cell (i := 7) rfl
  have ccl := hcb.lt
  clear hcb
  go_wp2_with fail
  refine (shift_is (p := k.p) (v := .slice k.sp k.p.l.length k.cap) hx.out (ThingsAt.lasts _ _ _ _ HT.out HG4.out)).mono ?_
  rintro e w5 ⟨rfl, hb5⟩
  have hga := Gr.tr hb5 (Gr.alloc w5 (Obj.cells #[.int .i64 xl, .int .i64 xh] 23))
  have HB5 := Lib.hid (HB4.out.grow hga)
  have HG5 := Lib.hid (HG4.out.tr hga)
  have HX5 := Lib.hid (Box.fresh w5 [.int .i64 xl, .int .i64 xh] 23)
  clear hb5 hga c0 c1 c2 c3 c4 c5 c6 c7 ccl
  have hcb := HB5.out
  have c0 := hcb.cell (i := 0) rfl
  have c1 := hcb.cell (i := 1) rfl
  have c2 := hcb.cell (i := 2) rfl
  have c3 := hcb.cell (i := 3) rfl
  have c4 := hcb.cell (i := 4) rfl
  have c5 := hcb.cell (i := 5) rfl
  have c6 := hcb.cell (i := 6) rfl
  have c7 := hcb.cell (i := 7) rfl
  have ccl := hcb.lt
  clear hcb
  go_wp2_with fail
  refine (shift_is (p := k.p) (v := .slice k.sp k.p.l.length k.cap) hy'.out (ThingsAt.lasts _ _ _ _ HT.out HG5.out)).mono ?_
  rintro e w6 ⟨rfl, hb6⟩
  have hga := Gr.tr hb6 (Gr.alloc w6 (Obj.cells #[.int .i64 yl, .int .i64 yh] 23))
  have HB6 := Lib.hid (HB5.out.grow hga)
  have HG6 := Lib.hid (HG5.out.tr hga)
  have HX6 := Lib.hid (HX5.out.grow hga)
  have HY6 := Lib.hid (Box.fresh w6 [.int .i64 yl, .int .i64 yh] 23)
  have HW6 := Lib.hid (HY.out.growW HG6.out)
  clear hb6 hga c0 c1 c2 c3 c4 c5 c6 c7 ccl
  have bi' := bi.out
  have bj' := bj.out
  go_upto_region 19 with fail
  generalize w6.alloc (Obj.cells #[.int .i64 yl, .int .i64 yh] 23) = W0 at *
  go_cut [18] (fun tp wx => ∃ bx : Nat, ∃ x : Cu, tp = .pointer (some ⟨bx, 0, none⟩) ∧ x.isT k.cuts = true ∧ Box wx bx [.int .i64 x.a, .int .i64 x.b, .int .i64 x.c, .int .i64 x.d] 30 ∧ Gr W0 wx)
  case first =>
    clear bi' bj'
    have hn0 : W0.heap.size ≤ W0.heap.size := Nat.le_refl _
    refine Dq.region_wild (n0 := W0.heap.size) 5 3 (VW k b o len cap W0.heap.size) (by kernel_rfl) (by kernel_rfl) (VW.ok k b o len cap W0.heap.size) ?_ ?_
    · intro i' o' hi' ho'
      match i', hi' with
      | 0, _ =>
        cases ho'
        refine Dq.Step.mk2 [] rfl rfl rfl (D := [(2, none)]) (by kernel_rfl) ?_
        intro ρ W ⟨p1, p2, p3⟩ hG hF K hK
        simp [FactsD] at hF
        rw [exec_loadBox row28 rfl (hG.2 _ _ _ (by decide) (HB6.out.grow (Gr.drew _))) rfl hF]
        exact hK _ ⟨rfl, Dq.St.same _ _ _⟩
      | 1, _ =>
        cases ho'
        refine Dq.Step.mk2 [VW k b o len cap W0.heap.size 0 true] rfl rfl rfl (D := [(1, none)]) (by kernel_rfl) ?_
        intro ρ W ⟨p1, p2, p3⟩ hG hF K hK
        simp [FactsD] at hF
        go_simp
        exact hK _ ⟨rfl, Dq.St.same _ _ _⟩
      | 2, _ =>
        cases ho'
        refine Dq.Step.mk2 [VW k b o len cap W0.heap.size 1 true, VW k b o len cap W0.heap.size 0 true] rfl rfl rfl (D := [(163, some 0)]) (by kernel_rfl) ?_
        intro ρ W ⟨p1, p2, p3⟩ hG hF K hK
        simp [FactsD, VW] at hF
        have hsz : W0.heap.size ≤ W.heap.size := hG.1.size
        have hyW : ByIn b o len W := by
          obtain ⟨r1, r2, r3, r4⟩ := HW6.out
          exact ⟨r1, r2, by omega, fun i hi => by
            obtain ⟨x, hx, hx'⟩ := r4 i hi
            exact ⟨x, (hG.1.cell (p := ⟨b, o + i, none⟩) r3).trans hx, hx'⟩⟩
        go_simp
        refine hK _ ⟨rfl, (draws_any b o len cap W hyW).mono fun e w' ⟨h1, h2, h3⟩ => ?_⟩
        subst h1
        exact ⟨fun _ => ⟨_, _, rfl, by omega, h3⟩, Dq.St.of hsz h2⟩
      | 3, _ =>
        cases ho'
        refine Dq.Step.mk2 [VW k b o len cap W0.heap.size 2 false, VW k b o len cap W0.heap.size 1 false, VW k b o len cap W0.heap.size 0 false] rfl rfl rfl (D := [(162, some 2), (164, some 0)]) (by kernel_rfl) ?_
        intro ρ W ⟨p1, p2, p3⟩ hG hF K hK
        simp [FactsD, VW] at hF
        obtain ⟨hF1, A, B, hF2, hA, hD⟩ := hF
        have hsz : W0.heap.size ≤ W.heap.size := hG.1.size
        go_simp
        refine hK _ ⟨rfl, (other_any k hD (by omega) k0).mono fun e w' ⟨⟨x, h1, h2⟩, h3⟩ => ?_⟩
        subst h1
        exact ⟨⟨x, rfl, h2⟩, DrawOk.bn hD h3 hsz hA⟩
      | 4, _ =>
        cases ho'
        refine Dq.Step.mk2 [VW k b o len cap W0.heap.size 3 true, VW k b o len cap W0.heap.size 2 true, VW k b o len cap W0.heap.size 1 true, VW k b o len cap W0.heap.size 0 true] rfl rfl rfl (D := []) (by kernel_rfl) ?_
        intro ρ W ⟨p1, p2, p3⟩ hG hF K hK
        have hsz : W0.heap.size ≤ W.heap.size := hG.1.size
        go_simp
        exact hK _ ⟨⟨_, rfl, hsz, Box.fresh W [.int .i64 0, .int .i64 0, .int .i64 0, .int .i64 0] 30⟩, Dq.St.of hsz (Gr.alloc _ _)⟩
    · intro vs W hG hV
      have v0 := hV 0 (by omega)
      have v1 := hV 1 (by omega)
      obtain ⟨x, v3, hxT⟩ := hV 3 (by omega)
      obtain ⟨c, v4, hc0, hcB⟩ := hV 4 (by omega)
      set_option maxRecDepth 100000 in
      simp only [lay, Act.put, List.getElem?_toArray, List.getElem?_cons_succ, List.getElem?_cons_zero, Option.bind_some, List.setIfInBounds_toArray, List.set_cons_succ, List.set_cons_zero]
      generalize vs 0 = q0 at *
      generalize vs 1 = q1 at *
      generalize vs 2 = q2 at *
      generalize vs 3 = q3 at *
      generalize vs 4 = q4 at *
      subst v3
      subst v4
      have n0 := hcB.cell (i := 0) rfl
      have n1 := hcB.cell (i := 1) rfl
      have n2 := hcB.cell (i := 2) rfl
      have n3 := hcB.cell (i := 3) rfl
      have nf := hcB.free
      have nl := hcB.lt
      go_wp2_with fail
      go_meet
      case rel =>
        exact ⟨c, x, rfl, hxT, ((((hcB.put 0 (.int .i64 x.a)).put 1 (.int .i64 x.b)).put 2 (.int .i64 x.c)).put 3 (.int .i64 x.d)), ((((hG.1.setCell (by simpa using hc0) _).setCell (by simpa using hc0) _).setCell (by simpa using hc0) _).setCell (by simpa using hc0) _)⟩
  case rest =>
    obtain ⟨bx, x, rfl, hxT, hbx, hgx⟩ := hcut
    rename World => w7
    have hxl := isT_leW hxT
    have hst := stepb hk
    obtain ⟨sb, hsb⟩ : ∃ v, k.step * (x.b + x.c) = v := ⟨_, rfl⟩
    obtain ⟨sw, hsw⟩ : ∃ v, k.step * (x.a - x.c) = v := ⟨_, rfl⟩
    have hsb1 : -8000 ≤ sb ∧ sb ≤ 8000 := by rw [← hsb]; exact step_mul hst.1 (by omega)
    have hsw1 : -8000 ≤ sw ∧ sw ≤ 8000 := by rw [← hsw]; exact step_mul hst.1 (by omega)
    obtain ⟨-, q1, q2, q3, q4, q5, q6, q7⟩ := hst
    have HG7 := Lib.hid (HG6.out.tr hgx)
    have hc7 := HB6.out.grow hgx
    have c8 := hc7.cell (i := 8) rfl
    have c9 := hc7.cell (i := 9) rfl
    have c11 := hc7.cell (i := 11) rfl
    have c12 := hc7.cell (i := 12) rfl
    have c13 := hc7.cell (i := 13) rfl
    have c14 := hc7.cell (i := 14) rfl
    have c15 := hc7.cell (i := 15) rfl
    have c16 := hc7.cell (i := 16) rfl
    have ccl := hc7.lt
    have hx7 := HX6.out.grow hgx
    have g0 := hx7.cell (i := 0) rfl
    have g1 := hx7.cell (i := 1) rfl
    have gl := hx7.lt
    have hy7 := HY6.out.grow hgx
    have r0 := hy7.cell (i := 0) rfl
    have r1 := hy7.cell (i := 1) rfl
    have rl := hy7.lt
    have n0 := hbx.cell (i := 0) rfl
    have n1 := hbx.cell (i := 1) rfl
    have n2 := hbx.cell (i := 2) rfl
    have n3 := hbx.cell (i := 3) rfl
    have nl := hbx.lt
    clear hc7 hx7 hy7 hbx hgx bi' bj' hxT
    have hw7 := hord.out (sw)
    rcases hw7 with h1 | ⟨h1, h2⟩
    all_goals
      go_wp2_with fail
      refine (awake_any _).mono ?_
      rintro e wz ⟨rfl, hbz⟩
      go_wp2
      exact bodyPost_ret (v := .bool true) (by simp [results, Tryz.results7, go_sem]) rfl ⟨rfl, Gr.tr HG7.out hbz⟩
end Go.Proofs.YtcngaohfemdfjaaGreat
