import Derived.Test.YtcngaohfemdfjaaGreatY34
import Derived.Test.YtcngaohfemdfjaaGreatY33
import Derived.Test.YtcngaohfemdfjaaGreatX54
import Derived.Test.YtcngaohfemdfjaaGreatX54r
import Derived.Test.YtcngaohfemdfjaaGreatXg
import Derived.RegionTactic
import Derived.Deep.CutBlock
import Derived.Deep.DeepCutAuto
set_option linter.unusedVariables false
set_option linter.unusedSimpArgs false
namespace Go.Proofs.YtcngaohfemdfjaaGreat
open Go.RowKit
set_option maxRecDepth 100000 in
set_option maxHeartbeats 60000000 in
theorem mmore_main (k : Cd) (u : Cu) (z : Int) (w : World) (hl : k.p.l.length ≤ 40) (hT : ThingsAt k.p.l (.slice k.sp k.p.l.length k.cap) w) (hc : Hid ((k.okc && k.p.ok) = true)) (hn : k.cuts ≤ 20) (hk : k.okc = true) (hok : k.p.ok = true) (hz0 : 0 ≤ z ∧ z < 256) :
    Calls Tryz.prog 10 #[.agg k.cs.toArray, u.val, .int .u8 z] w fun e w' => e = .returned (.bool true) ∧ Below w.heap.size w w' := by
  have d : decide (40 < (k.p.l.length : Int)) = false := by simp; omega
  have d' : decide (40 < k.p.l.length) = false := by simp; omega
  have y1 : decide (20 < k.cuts) = false := by simpa using hn
  have hkc := (okc_cuts hk).1
  have HT := Lib.hid hT
  clear hl hT
  have p7 : ∀ h : 7 < k.cs.length, k.cs[7] = .slice k.sp k.p.l.length k.cap := fun _ => rfl
  have p10 : ∀ h : 10 < k.cs.length, k.cs[10] = .int .i64 k.cuts := fun _ => rfl
  have hl : k.cs.length = 17 := rfl
  have HB := Lib.hid (show Box ((w.alloc (Obj.cells k.cs.toArray 28)).alloc (Obj.cells #[.int .i64 u.a, .int .i64 u.b, .int .i64 u.c, .int .i64 u.d] 30)) w.heap.size k.cs 28 from (Box.fresh w k.cs 28).grow (Gr.alloc _ _))
  have HU := Lib.hid (show Box ((w.alloc (Obj.cells k.cs.toArray 28)).alloc (Obj.cells #[.int .i64 u.a, .int .i64 u.b, .int .i64 u.c, .int .i64 u.d] 30)) (w.heap.size + 1) [.int .i64 u.a, .int .i64 u.b, .int .i64 u.c, .int .i64 u.d] 30 by simpa using Box.fresh (w.alloc (Obj.cells k.cs.toArray 28)) [.int .i64 u.a, .int .i64 u.b, .int .i64 u.c, .int .i64 u.d] 30)
  have HG0 := Lib.hid (show Gr w ((w.alloc (Obj.cells k.cs.toArray 28)).alloc (Obj.cells #[.int .i64 u.a, .int .i64 u.b, .int .i64 u.c, .int .i64 u.d] 30)) from (Gr.alloc _ _).tr (Gr.alloc _ _))
  unfold Cu.val
  go_enter Tryz.func10, Tryz.ntmps10
  go_wp2_with (first | (with_reducible refine wpList_stopLoad (ty := 28) rfl ?_; unfold Stop; first | refine wpList_loadBox row28 rfl (HB.out) rfl rfl rfl ?_ | refine wpList_loadPartG row28 rfl (HB.out) (Cd.whole k) rfl rfl rfl ?_))
  refine (card_is (b := true) hc.out (ThingsAt.lasts _ _ _ _ HT.out HG0.out)).mono ?_
  rintro e w1 ⟨rfl, hb1⟩
  have HG1 := Lib.hid (HG0.out.tr hb1)
  have HB1 := Lib.hid (HB.out.grow hb1)
  have HU1 := Lib.hid (HU.out.grow hb1)
  clear hb1
  have c10 := HB1.out.cell (i := 10) rfl
  have ccl := HB1.out.lt
  obtain ⟨W2, hst2, hB2, hr2⟩ := store_card w1 k.cs rfl rfl
  have HX2 := Lib.hid hB2
  have HB2 := Lib.hid (HB1.out.grow hr2)
  have HU2 := Lib.hid (HU1.out.grow hr2)
  have HG2 := Lib.hid (HG1.out.tr hr2)
  have z6 : z.tmod 6 = z % 6 := Int.tmod_eq_emod_of_nonneg hz0.1
  have z2 : z.tdiv 2 = z / 2 := Int.tdiv_eq_ediv_of_nonneg hz0.1
  have z7 : z.tdiv 6 = z / 6 := Int.tdiv_eq_ediv_of_nonneg hz0.1
  have HR2 := Lib.hid hr2
  clear hB2 hr2
  go_upto_block 0 with (first | (with_reducible refine wpList_stopLoad (ty := 28) rfl ?_; unfold Stop; first | refine wpList_loadBox row28 rfl (HB1.out) rfl rfl rfl ?_ | refine wpList_loadPartG row28 rfl (HB1.out) (Cd.whole k) rfl rfl rfl ?_))
  go_cut [52, 60] (fun _ _ wx => Gr w1 wx ∧ ∃ x : Cd, k.Less x ∧ x.okc = true ∧ x.sp = k.sp ∧ x.cap = k.cap ∧ Box wx w1.heap.size x.cs 28)
  case first =>
    have hcb := HB2.out
    have c10 := hcb.cell (i := 10) rfl
    have c11 := hcb.cell (i := 11) rfl
    have c12 := hcb.cell (i := 12) rfl
    have c13 := hcb.cell (i := 13) rfl
    have c14 := hcb.cell (i := 14) rfl
    have c15 := hcb.cell (i := 15) rfl
    have c16 := hcb.cell (i := 16) rfl
    have ccl2 := hcb.lt
    have hdb := HX2.out
    have d10 := hdb.cell (i := 10) rfl
    have d11 := hdb.cell (i := 11) rfl
    have d12 := hdb.cell (i := 12) rfl
    have d13 := hdb.cell (i := 13) rfl
    have d14 := hdb.cell (i := 14) rfl
    have d15 := hdb.cell (i := 15) rfl
    have d16 := hdb.cell (i := 16) rfl
    have dcl := hdb.lt
    have df := hdb.free
    have hvd := vd_ends hk
    have h6 : z % 6 = 0 ∨ z % 6 = 1 ∨ z % 6 = 2 ∨ z % 6 = 3 ∨ z % 6 = 4 ∨ z % 6 = 5 := by omega
    clear hcb hdb
    rcases h6 with h6 | h6 | h6 | h6 | h6 | h6
    · rw [h6] at z6
      go_wp2_with fail
      · go_meet
        case rel =>
          exact ⟨(HR2.out.setCell (Nat.le_refl _) _), ⟨{ k with prism := k.prism - z }, ⟨rfl, rfl, rfl, by dsimp only; omega, by dsimp only; omega, by dsimp only; omega, by dsimp only; omega, by dsimp only; omega, by dsimp only; omega, by dsimp only; omega⟩, vd_of (by dsimp only; omega), rfl, rfl, HX2.out.put 13 (.int .i64 (k.prism - z))⟩⟩
      · go_meet
        case rel =>
          exact ⟨(HR2.out.setCell (Nat.le_refl _) _), ⟨{ k with prism := 0 }, ⟨rfl, rfl, rfl, by dsimp only; omega, by dsimp only; omega, by dsimp only; omega, by dsimp only; omega, by dsimp only; omega, by dsimp only; omega, by dsimp only; omega⟩, vd_of (by dsimp only; omega), rfl, rfl, HX2.out.put 13 (.int .i64 (0))⟩⟩
    · rw [h6] at z6
      go_wp2_with fail
      · go_meet
        case rel =>
          exact ⟨(HR2.out.setCell (Nat.le_refl _) _), ⟨{ k with squeeze := k.squeeze - z }, ⟨rfl, rfl, rfl, by dsimp only; omega, by dsimp only; omega, by dsimp only; omega, by dsimp only; omega, by dsimp only; omega, by dsimp only; omega, by dsimp only; omega⟩, vd_of (by dsimp only; omega), rfl, rfl, HX2.out.put 14 (.int .i64 (k.squeeze - z))⟩⟩
      · go_meet
        case rel =>
          exact ⟨(HR2.out.setCell (Nat.le_refl _) _), ⟨{ k with squeeze := 0 }, ⟨rfl, rfl, rfl, by dsimp only; omega, by dsimp only; omega, by dsimp only; omega, by dsimp only; omega, by dsimp only; omega, by dsimp only; omega, by dsimp only; omega⟩, vd_of (by dsimp only; omega), rfl, rfl, HX2.out.put 14 (.int .i64 (0))⟩⟩
    · rw [h6] at z6
      go_wp2_with fail
      · go_meet
        case rel =>
          exact ⟨(HR2.out.setCell (Nat.le_refl _) _), ⟨{ k with front := k.front - z }, ⟨rfl, rfl, rfl, by dsimp only; omega, by dsimp only; omega, by dsimp only; omega, by dsimp only; omega, by dsimp only; omega, by dsimp only; omega, by dsimp only; omega⟩, vd_of (by dsimp only; omega), rfl, rfl, HX2.out.put 15 (.int .i64 (k.front - z))⟩⟩
      · go_meet
        case rel =>
          exact ⟨(HR2.out.setCell (Nat.le_refl _) _), ⟨{ k with front := 0 }, ⟨rfl, rfl, rfl, by dsimp only; omega, by dsimp only; omega, by dsimp only; omega, by dsimp only; omega, by dsimp only; omega, by dsimp only; omega, by dsimp only; omega⟩, vd_of (by dsimp only; omega), rfl, rfl, HX2.out.put 15 (.int .i64 (0))⟩⟩
    · rw [h6] at z6
      go_wp2_with fail
      · go_meet
        case rel =>
          exact ⟨(HR2.out.setCell (Nat.le_refl _) _), ⟨{ k with deep := k.deep - z }, ⟨rfl, rfl, rfl, by dsimp only; omega, by dsimp only; omega, by dsimp only; omega, by dsimp only; omega, by dsimp only; omega, by dsimp only; omega, by dsimp only; omega⟩, vd_of (by dsimp only; omega), rfl, rfl, HX2.out.put 16 (.int .i64 (k.deep - z))⟩⟩
      · go_meet
        case rel =>
          exact ⟨(HR2.out.setCell (Nat.le_refl _) _), ⟨{ k with deep := 0 }, ⟨rfl, rfl, rfl, by dsimp only; omega, by dsimp only; omega, by dsimp only; omega, by dsimp only; omega, by dsimp only; omega, by dsimp only; omega, by dsimp only; omega⟩, vd_of (by dsimp only; omega), rfl, rfl, HX2.out.put 16 (.int .i64 (0))⟩⟩
    · rw [h6] at z6
      go_wp2_with fail
      · refine (lspan_any _ _ _).mono ?_
        rintro e w4 ⟨rfl, hb4⟩
        have hx4 := HX2.out.grow hb4
        have d11 := hx4.cell (i := 11) rfl
        have d12 := hx4.cell (i := 12) rfl
        have df4 := hx4.free
        have dcl4 := hx4.lt
        have hg4 := Gr.tr HR2.out hb4
        go_wp2_with fail
        go_meet
        case rel =>
          exact ⟨((hg4.setCell (Nat.le_refl _) _).setCell (Nat.le_refl _) _), ⟨{ k with elo := k.elo - z, ehi := k.ehi + z / 2 }, ⟨rfl, rfl, rfl, by dsimp only; omega, by dsimp only; omega, by dsimp only; omega, by dsimp only; omega, by dsimp only; omega, by dsimp only; omega, by dsimp only; omega⟩, vd_of (by dsimp only; omega), rfl, rfl, (hx4.put 11 (.int .i64 (k.elo - z))).put 12 (.int .i64 (k.ehi + z / 2))⟩⟩
      · refine (lspan_any _ _ _).mono ?_
        rintro e w4 ⟨rfl, hb4⟩
        have hx4 := HX2.out.grow hb4
        have d11 := hx4.cell (i := 11) rfl
        have d12 := hx4.cell (i := 12) rfl
        have df4 := hx4.free
        have dcl4 := hx4.lt
        have hg4 := Gr.tr HR2.out hb4
        go_wp2_with fail
        go_meet
        case rel =>
          exact ⟨((hg4.setCell (Nat.le_refl _) _).setCell (Nat.le_refl _) _), ⟨{ k with elo := k.elo - z, ehi := 10000 }, ⟨rfl, rfl, rfl, by dsimp only; omega, by dsimp only; omega, by dsimp only; omega, by dsimp only; omega, by dsimp only; omega, by dsimp only; omega, by dsimp only; omega⟩, vd_of (by dsimp only; omega), rfl, rfl, (hx4.put 11 (.int .i64 (k.elo - z))).put 12 (.int .i64 (10000))⟩⟩
      · refine (lspan_any _ _ _).mono ?_
        rintro e w4 ⟨rfl, hb4⟩
        have hx4 := HX2.out.grow hb4
        have d11 := hx4.cell (i := 11) rfl
        have d12 := hx4.cell (i := 12) rfl
        have df4 := hx4.free
        have dcl4 := hx4.lt
        have hg4 := Gr.tr HR2.out hb4
        go_wp2_with fail
        go_meet
        case rel =>
          exact ⟨((hg4.setCell (Nat.le_refl _) _).setCell (Nat.le_refl _) _), ⟨{ k with elo := 1, ehi := k.ehi + z / 2 }, ⟨rfl, rfl, rfl, by dsimp only; omega, by dsimp only; omega, by dsimp only; omega, by dsimp only; omega, by dsimp only; omega, by dsimp only; omega, by dsimp only; omega⟩, vd_of (by dsimp only; omega), rfl, rfl, (hx4.put 11 (.int .i64 (1))).put 12 (.int .i64 (k.ehi + z / 2))⟩⟩
      · refine (lspan_any _ _ _).mono ?_
        rintro e w4 ⟨rfl, hb4⟩
        have hx4 := HX2.out.grow hb4
        have d11 := hx4.cell (i := 11) rfl
        have d12 := hx4.cell (i := 12) rfl
        have df4 := hx4.free
        have dcl4 := hx4.lt
        have hg4 := Gr.tr HR2.out hb4
        go_wp2_with fail
        go_meet
        case rel =>
          exact ⟨((hg4.setCell (Nat.le_refl _) _).setCell (Nat.le_refl _) _), ⟨{ k with elo := 1, ehi := 10000 }, ⟨rfl, rfl, rfl, by dsimp only; omega, by dsimp only; omega, by dsimp only; omega, by dsimp only; omega, by dsimp only; omega, by dsimp only; omega, by dsimp only; omega⟩, vd_of (by dsimp only; omega), rfl, rfl, (hx4.put 11 (.int .i64 (1))).put 12 (.int .i64 (10000))⟩⟩
    · rw [h6] at z6
      go_wp2_with fail
      · go_meet
        case rel =>
          exact ⟨(HR2.out.setCell (Nat.le_refl _) _), ⟨{ k with cuts := k.cuts - z / 6 }, ⟨rfl, rfl, rfl, by dsimp only; omega, by dsimp only; omega, by dsimp only; omega, by dsimp only; omega, by dsimp only; omega, by dsimp only; omega, by dsimp only; omega⟩, vd_of (by dsimp only; omega), rfl, rfl, HX2.out.put 10 (.int .i64 (k.cuts - z / 6))⟩⟩
      · go_meet
        case rel =>
          exact ⟨(HR2.out.setCell (Nat.le_refl _) _), ⟨{ k with cuts := 0 }, ⟨rfl, rfl, rfl, by dsimp only; omega, by dsimp only; omega, by dsimp only; omega, by dsimp only; omega, by dsimp only; omega, by dsimp only; omega, by dsimp only; omega⟩, vd_of (by dsimp only; omega), rfl, rfl, HX2.out.put 10 (.int .i64 (0))⟩⟩
  case rest =>
    obtain ⟨hgx, x, hL, hxk, hxs, hxc, hbx⟩ := hcut
    rename_i KK hKK
    exact hKK _ _ (mmore_rest k x u z w _ w1.heap.size HT.out hn hk hok hL hxk hxs hxc (HB1.out.grow hgx) hbx (HU1.out.grow hgx) (HG1.out.tr hgx) _ _ _ _ _ _ _ _ _ _ _ _ _ _ _ _ _ _ _ _ _ _ _ _ _ _ _ _ _ _ _ _ _ _ _ _ _ _ _ _ _ _ _ _ _ _ _ _ _ _ _ _ _ _ _ _ _ _ _ _ _ _ _ _ _ _ _ _ _ _ _ _ _ _ _ _ _ _ _ _ _ _ _ _ _ _ _ _ _ _ _ _ _ _ _ _ _ _ _ _ _ _ _ _ _ _ _ _ _ _ _ _ _ _ _ _ _ _ _ _ _ _ _ _ _ _ _ _ _ _ _ _ _ _ _ _ _ _ _ _ _ _ _ _ _ _ _ _ _ _ _ _ _ _ _ _ _ _ _ _ _ _ _ _ _ _ _ _ _ _ _ _ _ _ _ _ _ _ _ _ _ _ _ _ _ _ _ _ _ _ _ _ _ _ _ _ _ _ _ _ _ _ _ _ _ _ _ _ _ _ _ _ _ _ _ _ _ _ _ _ _ _ _ _ _ _ _ _ _ _ _ _ _ _ _ _ _ _ _ _ _ _ _ _ _ _ _ _ _ _ _ _ _)
end Go.Proofs.YtcngaohfemdfjaaGreat
