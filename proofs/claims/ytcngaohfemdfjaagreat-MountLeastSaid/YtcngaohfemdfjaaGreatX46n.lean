import Derived.Test.YtcngaohfemdfjaaGreatY34
import Derived.Test.YtcngaohfemdfjaaGreatY33
import Derived.Test.YtcngaohfemdfjaaGreatX44
import Derived.Test.YtcngaohfemdfjaaGreatXg
import Derived.Test.YtcngaohfemdfjaaGreatX45
import Derived.RegionTactic
import Derived.Test.YtcngaohfemdfjaaGreatX46a
set_option linter.unusedVariables false
set_option linter.unusedSimpArgs false
namespace Go.Proofs.YtcngaohfemdfjaaGreat
open Go.RowKit
set_option maxRecDepth 100000 in
set_option maxHeartbeats 16000000 in
theorem least_no (k : Cd) (b o len cap : Nat) (w : World) (hl : k.p.l.length ≤ 40) (hT : ThingsAt k.p.l (.slice k.sp k.p.l.length k.cap) w) (hy : ByIn b o len w) (hc : Hid ((k.okc && k.p.ok) = true)) (hn : k.cuts ≤ 20) (ht : Hid (k.trimA = (⟨0, 0, 0, 0⟩, 11))) (hno : Hid (k.trim = none)) (he0 : Hid (k.err [] = 0)) (k0 : 0 ≤ k.cuts) :
    Calls Tryz.prog 6 #[.agg k.cs.toArray, .slice (some ⟨b, o, none⟩) len cap] w fun e w' => e = .returned (.bool true) ∧ Below w.heap.size w w' := by
  have d : decide (40 < (k.p.l.length : Int)) = false := by simp; omega
  have d' : decide (40 < k.p.l.length) = false := by simp; omega
  have x1 : ((len : Int) == 0) = false := by have := hy.1; simp; omega
  have x2 : (len == 0) = false := by have := hy.1; simp; omega
  have y1 : decide (20 < k.cuts) = false := by simpa using hn
  have HT := Lib.hid hT
  have HY := Lib.hid hy
  clear hl hT hy
  have p7 : ∀ h : 7 < k.cs.length, k.cs[7] = .slice k.sp k.p.l.length k.cap := fun _ => rfl
  have p10 : ∀ h : 10 < k.cs.length, k.cs[10] = .int .i64 k.cuts := fun _ => rfl
  have hl : k.cs.length = 17 := rfl
  have HB := Lib.hid (Box.fresh w k.cs 28)
  go_enter Tryz.func6, Tryz.ntmps6
  go_wp2_with (first | (with_reducible refine wpList_stopLoad (ty := 28) rfl ?_; unfold Stop; first | refine wpList_loadBox row28 rfl (HB.out) rfl rfl rfl ?_ | refine wpList_loadPartG row28 rfl (HB.out) (Cd.whole k) rfl rfl rfl ?_))
  refine (card_is (b := true) hc.out (ThingsAt.lasts _ _ _ _ HT.out (Gr.alloc _ _))).mono ?_
  rintro e w1 ⟨rfl, hb1⟩
  have HB1 := Lib.hid (HB.out.grow hb1)
  have hc10 := HB1.out.cell (i := 10) rfl
  have hcl := HB1.out.lt
  have HG1 := Lib.hid ((Gr.alloc w (Obj.cells k.cs.toArray 28)).tr hb1)
  clear hb1
  go_wp2_with (first | (with_reducible refine wpList_stopLoad (ty := 28) rfl ?_; unfold Stop; first | refine wpList_loadBox row28 rfl (HB1.out) rfl rfl rfl ?_ | refine wpList_loadPartG row28 rfl (HB1.out) (Cd.whole k) rfl rfl rfl ?_))
  refine (mtrim_is ht.out (ThingsAt.lasts _ _ _ _ HT.out HG1.out)).mono ?_
  rintro e w2 ⟨rfl, hb2⟩
  have HB2 := Lib.hid (HB1.out.grow hb2)
  have HG2 := Lib.hid (HG1.out.tr hb2)
  clear hb2 hc10
  have HB5 := Lib.hid (HB2.out.grow (Gr.alloc w2 (Obj.cells #[.int .i64 0, .int .i64 0, .int .i64 0, .int .i64 0] 30)))
  have HT5 := Lib.hid (Box.fresh w2 [.int .i64 0, .int .i64 0, .int .i64 0, .int .i64 0] 30)
  have HG5 := Lib.hid (HG2.out.tr (Gr.alloc w2 (Obj.cells #[.int .i64 0, .int .i64 0, .int .i64 0, .int .i64 0] 30)))
  go_wp2_with fail
  have hy5 := HY.out.grow HG5.out
  refine (draws_any b o len cap _ hy5).mono ?_
  rintro e w6 ⟨rfl, hb6, hd6⟩
  have hL := (LeastIn.mk (k := k) (w := w) (bt := w2.heap.size) (t := (⟨0, 0, 0, 0⟩ : Cu)) (j := 0) hd6 (bgr HG5.out HG5.out.size hb6) (HB5.out.grow hb6) (HT5.out.grow hb6) (by have := HB5.out.lt; omega) (by have := HT5.out.lt; omega))
  obtain ⟨A, hA⟩ : ∃ A, A = (w2.alloc (Obj.cells #[.int .i64 0, .int .i64 0, .int .i64 0, .int .i64 0] 30)).heap.size + 1 := ⟨_, rfl⟩
  obtain ⟨B, hB⟩ : ∃ B, B = (w2.alloc (Obj.cells #[.int .i64 0, .int .i64 0, .int .i64 0, .int .i64 0] 30)).heap.size := ⟨_, rfl⟩
  rw [← hA, ← hB] at hL ⊢
  clear hd6 hb6 hy5 hA hB
  go_wp2_with fail
  have HL1 := Lib.hid hL
  clear hL
  go_loopw [84] (fun i wr => ∃ j : Nat, j ≤ 6 ∧ i = .int .i64 j ∧ LeastIn k w w2.heap.size A B b o len cap (⟨0, 0, 0, 0⟩ : Cu) j wr) (fun i _ => 6 - (intOf i).toNat)
  case atStart => exact ⟨0, Nat.zero_le _, rfl, HL1.out⟩
  case round =>
    obtain ⟨j, hj, rfl, hLr⟩ := hrel
    have HL := Lib.hid hLr
    clear hLr
    by_cases hlt : j < 6
    · have h6 : decide ((j : Int) < 6) = true := by simp; omega
      go_wp2_with (first | (with_reducible refine wpList_stopLoad (ty := 28) rfl ?_; unfold Stop; first | refine wpList_loadBox row28 rfl (HL.out.card) rfl rfl rfl ?_ | refine wpList_loadPartG row28 rfl (HL.out.card) (Cd.whole k) rfl rfl rfl ?_))
      refine (other_any k HL.out.draw (by omega) (by omega)).mono ?_
      rintro e w3 ⟨⟨x, rfl, hxT⟩, hd3⟩
      have HL3 := Lib.hid (HL.out.drew hd3)
      clear hd3
      unfold Cu.val
      have HL4 := Lib.hid (HL3.out.grow (Gr.alloc w3 (Obj.cells #[.int .i64 x.a, .int .i64 x.b, .int .i64 x.c, .int .i64 x.d] 30)))
      have HX4 := Lib.hid (Box.fresh w3 [.int .i64 x.a, .int .i64 x.b, .int .i64 x.c, .int .i64 x.d] 30)
      go_wp2_with (first | (with_reducible refine wpList_stopLoad (ty := 28) rfl ?_; unfold Stop; first | refine wpList_loadBox row28 rfl (HL4.out.card) rfl rfl rfl ?_ | refine wpList_loadPartG row28 rfl (HL4.out.card) (Cd.whole k) rfl rfl rfl ?_))
      rcases hurts_of he0.out hxT with ⟨hxk, hxh⟩ | ⟨-, n, y, hxh, n0, n1, y0, y1'⟩
      · exact absurd (trim_some hxT hxk) (by rw [hno.out]; rintro ⟨_, h⟩; cases h)
      · have HH := Lib.hid hxh
        clear hxh
        refine (hurts_is HH.out (HT.out.below rfl HL4.out.bel)).mono ?_
        rintro e w5 ⟨rfl, hb5⟩
        have HL5 := Lib.hid (HL4.out.grow hb5)
        have c7 := HL5.out.card.cell (i := 7) rfl
        have ccl := HL5.out.card.lt
        have n2 : decide (n < 0) = false := by simp; omega
        have n3 : decide ((k.p.l.length : Int) ≤ n) = false := by simp; omega
        have y2 : decide (y < 1) = false := by simp; omega
        have y3 : decide (5 < y) = false := by simp; omega
        clear hb5
        go_wp2_with fail
        exact ⟨⟨j + 1, by omega, by go_num, HL5.out⟩, by simp [intOf]; omega⟩
    · have : j = 6 := by omega
      subst this
      go_wp2_with fail
      refine (awake_any _).mono ?_
      rintro e wz ⟨rfl, hbz⟩
      go_wp2
      exact bodyPost_ret (v := .bool true) (by simp [results, Tryz.results6, go_sem]) rfl ⟨rfl, bgr HL.out.bel HL.out.bel.size hbz⟩
end Go.Proofs.YtcngaohfemdfjaaGreat
