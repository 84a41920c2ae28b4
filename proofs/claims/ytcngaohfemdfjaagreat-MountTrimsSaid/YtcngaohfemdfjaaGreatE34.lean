import Derived.Test.YtcngaohfemdfjaaGreatE24
import Derived.Test.YtcngaohfemdfjaaGreatE32
import Derived.Deep.CutBlock
set_option linter.unusedVariables false
set_option linter.unusedSimpArgs false
set_option maxRecDepth 100000
set_option maxHeartbeats 60000000
namespace Go.Proofs.YtcngaohfemdfjaaGreat
open Go.RowKit
def SmpV (v : Value) (W : World) : Prop := ∃ sp cap, v = .agg (smpC sp cap).cs.toArray ∧ TsA smp.l (.slice sp 6 cap) W
theorem SmpV.lasts : Lasts SmpV := fun _ _ _ ⟨sp, cap, h1, h2⟩ hg => ⟨sp, cap, h1, TsA.lasts _ _ _ _ h2 hg⟩
theorem sample_rel (w : World) : Calls Tryz.prog 47 #[] w fun e w' => (∃ v, e = .returned v ∧ SmpV v w') ∧ Below w.heap.size w w' := by
  refine (sample_any w).mono ?_
  rintro e w1 ⟨⟨sp, cap, rfl, hT⟩, hb⟩
  exact ⟨⟨_, rfl, sp, cap, rfl, hT⟩, hb⟩
theorem mseen_smp (sp : Option Addr) (cap : Nat) (w : World) (h : TsA smp.l (.slice sp 6 cap) w) : Calls Tryz.prog 14 #[.agg (smpC sp cap).cs.toArray] w fun e w' => e = .returned (.tuple #[.int .i64 3, .int .i64 0]) ∧ Below w.heap.size w w' := by
  have := Seen_any (smpC sp cap) w h
  rw [smp_seen] at this
  exact this
theorem mhurts_smp (sp : Option Addr) (cap : Nat) (w : World) (h : TsA smp.l (.slice sp 6 cap) w) : Calls Tryz.prog 16 #[.agg (smpC sp cap).cs.toArray, .agg #[.int .i64 2, .int .i64 0, .int .i64 0, .int .i64 2]] w fun e w' => e = .returned (.tuple #[.int .i64 1, .int .i64 2, .int .i64 11]) ∧ Below w.heap.size w w' := by
  have := Hurts_any (smpC sp cap) ⟨2, 0, 0, 2⟩ w h
  rw [smp_hurts] at this
  exact this
theorem mtrim_smp (sp : Option Addr) (cap : Nat) (w : World) (h : TsA smp.l (.slice sp 6 cap) w) : Calls Tryz.prog 25 #[.agg (smpC sp cap).cs.toArray] w fun e w' => e = .returned (.tuple #[.agg #[.int .i64 2, .int .i64 1, .int .i64 0, .int .i64 3], .int .i64 0]) ∧ Below w.heap.size w w' := by
  have := Trim_any (smpC sp cap) w h
  rw [smp_trim] at this
  exact this
theorem mwhy_smp (sp : Option Addr) (cap : Nat) (w : World) (h : TsA smp.l (.slice sp 6 cap) w) : Calls Tryz.prog 27 #[.agg (farC sp cap).cs.toArray] w fun e w' => e = .returned (.tuple #[.int .i64 2, .int .i64 0, .int .i64 1, .int .i64 11]) ∧ Below w.heap.size w w' := by
  have := Why_any (farC sp cap) w h
  rw [far_why] at this
  exact this
theorem meyes_smp (sp : Option Addr) (cap : Nat) (w : World) (h : TsA smp.l (.slice sp 6 cap) w) : Calls Tryz.prog 18 #[.agg (smpC sp cap).cs.toArray, .agg #[.int .i64 2, .int .i64 1, .int .i64 0, .int .i64 3]] w fun e w' => e = .returned (.tuple #[.agg #[.int .i64 5992, .int .i64 7053], .int .i64 0]) ∧ Below w.heap.size w w' := by
  have := Eyes_any (smpC sp cap) ⟨2, 1, 0, 3⟩ w h
  rw [smp_eyes] at this
  exact this
theorem mroom_smp (sp : Option Addr) (cap : Nat) (w : World) (h : TsA smp.l (.slice sp 6 cap) w) : Calls Tryz.prog 20 #[.agg (smpC sp cap).cs.toArray, .agg #[.int .i64 2, .int .i64 1, .int .i64 0, .int .i64 3]] w fun e w' => e = .returned (.tuple #[.agg #[.int .i64 50, .int .i64 200], .int .i64 0]) ∧ Below w.heap.size w w' := by
  have := Room_any (smpC sp cap) ⟨2, 1, 0, 3⟩ w h
  rw [smp_room] at this
  exact this
theorem mdeep_smp (sp : Option Addr) (cap : Nat) (w : World) (h : TsA smp.l (.slice sp 6 cap) w) : Calls Tryz.prog 22 #[.agg (smpC sp cap).cs.toArray, .agg #[.int .i64 2, .int .i64 1, .int .i64 0, .int .i64 3]] w fun e w' => e = .returned (.tuple #[.agg #[.int .i64 2956, .int .i64 11700], .int .i64 0]) ∧ Below w.heap.size w w' := by
  have := Depths_any (smpC sp cap) ⟨2, 1, 0, 3⟩ w h
  rw [smp_deep] at this
  exact this
theorem store_card (w : World) (vs : List Value) (hl : vs.length = 17) (h1 : vs.all (·.oneCell') = true) : ∃ W, (storeCells ⟨w.heap.size, 0, none⟩ vs).run Tryz.prog (w.alloc (Obj.cells #[.int .i64 0, .int .i64 0, .int .i64 0, .int .i64 0, .int .i64 0, .int .i64 0, .int .i64 0, .slice none 0 0, .int .i64 0, .int .i64 0, .int .i64 0, .int .i64 0, .int .i64 0, .int .i64 0, .int .i64 0, .int .i64 0, .int .i64 0] 28)) = .ok () W ∧ Box W w.heap.size vs 28 ∧ Gr w W :=
  ⟨_, run_storeBox (Box.fresh w zero28 28) hl.symm h1, (Box.fresh w zero28 28).row, Only.gr (Only.row _ _) (Gr.alloc _ _) (Nat.le_refl _)⟩
theorem things_ne {l : List Th} {sp : Option Addr} {n c b : Nat} {w : World} {vs : List Value} {T : TypeId} (hl : 0 < l.length) (hT : TsA l (.slice sp n c) w) (hg : w.heap.size ≤ b) (i j : Nat) (x y : Value) (w' : World) (hw : Gr w w') : TsA l (.slice sp n c) ((w'.setCell ⟨b, i, none⟩ x).setCell ⟨b, j, none⟩ y) :=
  TsA.lasts _ _ _ _ hT ((Below.setCell (Below.setCell hw hg _) hg _))
theorem awake_any (w : World) : Calls Tryz.prog 13 #[] w fun e w' => e = .returned (.bool true) ∧ Below w.heap.size w w' := by
  go_enter Tryz.func13, Tryz.ntmps13
  go_wp2_with fail
  refine (sample_any _).mono ?_
  rintro e w1 ⟨⟨sp1, cap1, rfl, hT1⟩, hb1⟩
  have hg1 : Gr w w1 := hb1
  go_wp2_with fail
  refine (mseen_smp _ _ _ hT1).mono ?_
  rintro e w2 ⟨rfl, hb2⟩
  have hg2 := hg1.tr hb2
  clear hb1 hb2 hT1
  go_wp2_with fail
  refine (sample_any _).mono ?_
  rintro e w3 ⟨⟨sp3, cap3, rfl, hT3⟩, hb3⟩
  go_wp2_with fail
  refine (lcuts_any _ _ _ _ _).mono ?_
  rintro e w4 ⟨rfl, hb4⟩
  go_wp2_with fail
  refine (mhurts_smp _ _ _ (TsA.lasts _ _ _ _ hT3 hb4)).mono ?_
  rintro e w5 ⟨rfl, hb5⟩
  have hg5 := ((hg2.tr hb3).tr hb4).tr hb5
  clear hb3 hb4 hb5 hT3 hg1 hg2
  go_wp2_with fail
  refine (sample_any _).mono ?_
  rintro e w6 ⟨⟨sp6, cap6, rfl, hT6⟩, hb6⟩
  go_wp2_with fail
  refine (mtrim_smp _ _ _ hT6).mono ?_
  rintro e w7 ⟨rfl, hb7⟩
  have hg7 := (hg5.tr hb6).tr hb7
  have hc7 := Box.fresh w7 [.int .i64 2, .int .i64 1, .int .i64 0, .int .i64 3] 30
  clear hb6 hb7 hT6 hg5
  go_wp2_with fail
  refine (sample_any _).mono ?_
  rintro e w8 ⟨⟨sp8, cap8, rfl, hT8⟩, hb8⟩
  have hc8 := hc7.grow hb8
  have hg8 := (hg7.tr (Gr.alloc _ _)).tr hb8
  clear hb8 hg7 hc7
  obtain ⟨W9, hst, hB9, hr9⟩ := store_card w8 (smpC sp8 cap8).cs rfl rfl
  have h17 : (smpC sp8 cap8).cs.length = 17 := rfl
  have HC9 := Lib.hid (hc8.grow hr9)
  have HT9 := Lib.hid (TsA.lasts _ _ _ _ hT8 hr9)
  have HG9 := Lib.hid (hg8.tr hr9)
  have HG8 := Lib.hid hg8.size
  have HT11 := Lib.hid (things_ne (vs := []) (T := 0) (by decide) hT8 (Nat.le_refl _) 15 16 (.int .i64 50) (.int .i64 80) W9 hr9)
  have c15 := hB9.cell (i := 15) rfl
  have c16 := hB9.cell (i := 16) rfl
  have cf := hB9.free
  have cl := hB9.lt
  have hcl := hc8.lt
  have HB9 := Lib.hid (show Box ((W9.setCell ⟨w8.heap.size, 15, none⟩ (.int .i64 50)).setCell ⟨w8.heap.size, 16, none⟩ (.int .i64 80)) w8.heap.size (farC sp8 cap8).cs 28 from (hB9.put 15 (.int .i64 50)).put 16 (.int .i64 80))
  clear hc8 hT8 hg8 hr9 hB9
  go_wp2_with (first | (with_reducible refine wsl (ty := 28) rfl ?_; unfold Stop; refine wlb row28 rfl (HB9.out) rfl rfl rfl ?_))
  refine (mwhy_smp _ _ _ HT11.out).mono ?_
  rintro e w10 ⟨rfl, hb10⟩
  have hg10 := Gr.tr ((HG9.out.setCell (by have := HG8.out; simp; omega) _).setCell (by have := HG8.out; simp; omega) _) hb10
  have hc10 := ((HC9.out.other (by omega) 15 (.int .i64 50)).other (by omega) 16 (.int .i64 80)).grow hb10
  have HG10 := Lib.hid (show Gr w w10 from hg10)
  have HC10 := Lib.hid hc10
  have hcl10 := hc10.lt
  have q0 := hc10.cell (i := 0) rfl
  have q1 := hc10.cell (i := 1) rfl
  have q2 := hc10.cell (i := 2) rfl
  have q3 := hc10.cell (i := 3) rfl
  clear hg10 hc10 hb10 c15 c16 cf cl h17 hst HT9 HT11
  go_upto_region 7 with fail
  go_cut [13, 14] (fun tp ev wx => ∃ b : Nat, tp = .pointer (some ⟨b, 0, none⟩) ∧ ev = .int .i64 0 ∧ w10.heap.size ≤ b ∧ Box wx b [.int .i64 5992, .int .i64 7053] 23 ∧ Gr w10 wx)
  case first =>
    refine regionL 7 5 ?_ ?_ ?_
    · kernel_rfl
    · kernel_rfl
    simp only [List.take_succ_cons, List.take_zero, List.drop_succ_cons, List.drop_zero]
    refine chainB_fact (V := SmpV) (D := []) rfl (by kernel_rfl) (SmpV.lasts) ?_ ?_
    · intro ρ W ⟨p1,p2,p3⟩ hG hF K hK; (try simp [FD, exB] at hF); have ⟨hc, hf, hz⟩ := bdr hG; go_simp; exact hK _ (gives_rel (sample_rel _))
    apply cbe (D := [(6, none)]) rfl (by kernel_rfl)
    · intro ρ W ⟨p1,p2,p3⟩ hG hF K hK; (try simp [FD, exB] at hF); have ⟨hc, hf, hz⟩ := bdr hG; go_simp; exact hK _ gv
    apply cbe (D := [(47, some 1), (48, some 0)]) rfl (by kernel_rfl)
    · intro ρ W ⟨p1,p2,p3⟩ hG hF K hK; (try simp [FD, exB] at hF); have ⟨hc, hf, hz⟩ := bdr hG; obtain ⟨⟨sp, cap, hv, hT⟩, hF2⟩ := hF; go_simp; exact hK _ (gc (meyes_smp _ _ _ hT))
    apply cbe (D := [(49, some 0)]) rfl (by kernel_rfl)
    · intro ρ W ⟨p1,p2,p3⟩ hG hF K hK; (try simp [FD, exB] at hF); have ⟨hc, hf, hz⟩ := bdr hG; go_simp; exact hK _ gv
    apply cbe (D := [(46, some 0)]) rfl (by kernel_rfl)
    · intro ρ W ⟨p1,p2,p3⟩ hG hF K hK; (try simp [FD, exB] at hF); have ⟨hc, hf, hz⟩ := bdr hG; go_simp; exact hK _ gv
    apply cbe (D := [(46, some 1)]) rfl (by kernel_rfl)
    · intro ρ W ⟨p1,p2,p3⟩ hG hF K hK; (try simp [FD, exB] at hF); have ⟨hc, hf, hz⟩ := bdr hG; go_simp; exact hK _ gv
    refine chainB_any (V := fun p v W' => NewB [.int .i64 0, .int .i64 0] 23 p v W' ∧ w10.heap.size ≤ p.1) (D := []) rfl (by kernel_rfl) (fun p v A B h hg => ⟨NewB.lasts _ _ p v A B h.1 hg, h.2⟩) ?_ ?_
    · intro ρ W ⟨p1,p2,p3⟩ hG hF K hK; (try simp [FD, exB] at hF); have ⟨hc, hf, hz⟩ := bdr hG; go_simp; exact hK _ (⟨⟨NewB.new _ _ _, by have := hG.size; simpa using this⟩, Gr.alloc _ _⟩)
    refine chainB_done ⟨?_, ?_⟩
    · intro vs bs W hG hV hdj
      obtain ⟨e6, e5, e4, -⟩ := hV
      simp only [Nat.reduceSub] at e4 e5
      simp only [Nat.reduceSub] at e6
      clear hdj
      simp only [lay, Act.put, List.getElem?_toArray, List.getElem?_cons_succ, List.getElem?_cons_zero, Option.bind_some, List.setIfInBounds_toArray, List.set_cons_succ, List.set_cons_zero]
      generalize vs 0 = v0, vs 1 = v1, vs 2 = v2, vs 3 = v3
      generalize vs 4 = v4 at *
      generalize vs 5 = v5 at *
      generalize vs 6 = v6 at *
      subst e4
      subst e5
      obtain ⟨hc, hf, hz⟩ := bcell hG
      obtain ⟨⟨b6, rfl, hb6, hb6', hB6⟩, hb6n⟩ := e6
      have hl6 : w7.heap.size < b6 := by omega
      obtain ⟨y0_, y1_, yf0, yf1, yl⟩ := hB6.two
      have HB6 := Lib.hid hB6
      have HGW := Lib.hid hG
      clear hB6 hb6' hG hc hf hz
      go_wp2_with fail
      go_meet
      case rel =>
        exact ⟨b6, rfl, rfl, by omega, (HB6.out.put 0 _).put 1 _, (HGW.out.setCell (by simp; omega) _).setCell (by simp; omega) _⟩
    · intro vs bs W hG hV hdj
      obtain ⟨e6, -, e4, e3, -⟩ := hV
      simp only [Nat.reduceSub, Nat.reduceEqDiff, if_false] at e3
      simp only [Nat.reduceSub, Nat.reduceEqDiff, if_false] at e4
      simp only [Nat.reduceSub, Nat.reduceEqDiff, if_false] at e6
      clear hdj
      refine wpOp_two rfl rfl ?_
      simp only [layL, Nat.reduceEqDiff, if_false, if_true, Act.put, List.getElem?_toArray, List.getElem?_cons_succ, List.getElem?_cons_zero, Option.bind_some, List.setIfInBounds_toArray, List.set_cons_succ, List.set_cons_zero, List.drop_succ_cons, List.drop_zero]
      generalize vs 0 = v0, vs 1 = v1, vs 2 = v2
      generalize vs 3 = v3 at *
      generalize vs 4 = v4 at *
      generalize vs 6 = v6 at *
      subst e3
      subst e4
      obtain ⟨hc, hf, hz⟩ := bcell hG
      obtain ⟨⟨b6, rfl, hb6, hb6', hB6⟩, hb6n⟩ := e6
      have hl6 : w7.heap.size < b6 := by omega
      obtain ⟨y0_, y1_, yf0, yf1, yl⟩ := hB6.two
      have HB6 := Lib.hid hB6
      have HGW := Lib.hid hG
      clear hB6 hb6' hG hc hf hz
      go_wp2_with fail
      go_meet
      case rel =>
        exact ⟨b6, rfl, rfl, by omega, (HB6.out.put 0 _).put 1 _, (HGW.out.setCell (by simp; omega) _).setCell (by simp; omega) _⟩
  case rest =>
    obtain ⟨b7, rfl, rfl, hb7, hB7, hg7⟩ := hcut
    rename World => w11
    have HG11 := Lib.hid (HG10.out.tr hg7)
    have hcc := HC10.out.grow hg7
    have q0 := hcc.cell (i := 0) rfl
    have q1 := hcc.cell (i := 1) rfl
    have q2 := hcc.cell (i := 2) rfl
    have q3 := hcc.cell (i := 3) rfl
    have ql := hcc.lt
    have HC11 := Lib.hid hcc
    have HS7 := Lib.hid hB7
    clear hcc hg7 hB7
    go_upto_region 8 with fail
    go_cut [15, 16] (fun tp ev wx => ∃ b : Nat, tp = .pointer (some ⟨b, 0, none⟩) ∧ ev = .int .i64 0 ∧ w11.heap.size ≤ b ∧ Box wx b [.int .i64 50, .int .i64 200] 23 ∧ Gr w11 wx)
    case first =>
      refine regionL 7 5 ?_ ?_ ?_
      · kernel_rfl
      · kernel_rfl
      simp only [List.take_succ_cons, List.take_zero, List.drop_succ_cons, List.drop_zero]
      refine chainB_fact (V := SmpV) (D := []) rfl (by kernel_rfl) (SmpV.lasts) ?_ ?_
      · intro ρ W ⟨p1,p2,p3⟩ hG hF K hK; (try simp [FD, exB] at hF); have ⟨hc, hf, hz⟩ := bdr hG; go_simp; exact hK _ (gives_rel (sample_rel _))
      apply cbe (D := [(6, none)]) rfl (by kernel_rfl)
      · intro ρ W ⟨p1,p2,p3⟩ hG hF K hK; (try simp [FD, exB] at hF); have ⟨hc, hf, hz⟩ := bdr hG; go_simp; exact hK _ gv
      apply cbe (D := [(53, some 1), (54, some 0)]) rfl (by kernel_rfl)
      · intro ρ W ⟨p1,p2,p3⟩ hG hF K hK; (try simp [FD, exB] at hF); have ⟨hc, hf, hz⟩ := bdr hG; obtain ⟨⟨sp, cap, hv, hT⟩, hF2⟩ := hF; go_simp; exact hK _ (gc (mroom_smp _ _ _ hT))
      apply cbe (D := [(55, some 0)]) rfl (by kernel_rfl)
      · intro ρ W ⟨p1,p2,p3⟩ hG hF K hK; (try simp [FD, exB] at hF); have ⟨hc, hf, hz⟩ := bdr hG; go_simp; exact hK _ gv
      apply cbe (D := [(52, some 0)]) rfl (by kernel_rfl)
      · intro ρ W ⟨p1,p2,p3⟩ hG hF K hK; (try simp [FD, exB] at hF); have ⟨hc, hf, hz⟩ := bdr hG; go_simp; exact hK _ gv
      apply cbe (D := [(52, some 1)]) rfl (by kernel_rfl)
      · intro ρ W ⟨p1,p2,p3⟩ hG hF K hK; (try simp [FD, exB] at hF); have ⟨hc, hf, hz⟩ := bdr hG; go_simp; exact hK _ gv
      refine chainB_any (V := fun p v W' => NewB [.int .i64 0, .int .i64 0] 23 p v W' ∧ w11.heap.size ≤ p.1) (D := []) rfl (by kernel_rfl) (fun p v A B h hg => ⟨NewB.lasts _ _ p v A B h.1 hg, h.2⟩) ?_ ?_
      · intro ρ W ⟨p1,p2,p3⟩ hG hF K hK; (try simp [FD, exB] at hF); have ⟨hc, hf, hz⟩ := bdr hG; go_simp; exact hK _ (⟨⟨NewB.new _ _ _, by have := hG.size; simpa using this⟩, Gr.alloc _ _⟩)
      refine chainB_done ⟨?_, ?_⟩
      · intro vs bs W hG hV hdj
        obtain ⟨e6, e5, e4, -⟩ := hV
        simp only [Nat.reduceSub] at e4 e5
        simp only [Nat.reduceSub] at e6
        clear hdj
        simp only [lay, Act.put, List.getElem?_toArray, List.getElem?_cons_succ, List.getElem?_cons_zero, Option.bind_some, List.setIfInBounds_toArray, List.set_cons_succ, List.set_cons_zero]
        generalize vs 0 = v0, vs 1 = v1, vs 2 = v2, vs 3 = v3
        generalize vs 4 = v4 at *
        generalize vs 5 = v5 at *
        generalize vs 6 = v6 at *
        subst e4
        subst e5
        obtain ⟨hc, hf, hz⟩ := bcell hG
        obtain ⟨⟨b6, rfl, hb6, hb6', hB6⟩, hb6n⟩ := e6
        have hl6 : w7.heap.size < b6 := by omega
        obtain ⟨y0_, y1_, yf0, yf1, yl⟩ := hB6.two
        have HB6 := Lib.hid hB6
        have HGW := Lib.hid hG
        clear hB6 hb6' hG hc hf hz
        go_wp2_with fail
        go_meet
        case rel =>
          exact ⟨b6, rfl, rfl, by omega, (HB6.out.put 0 _).put 1 _, (HGW.out.setCell (by simp; omega) _).setCell (by simp; omega) _⟩
      · intro vs bs W hG hV hdj
        obtain ⟨e6, -, e4, e3, -⟩ := hV
        simp only [Nat.reduceSub, Nat.reduceEqDiff, if_false] at e3
        simp only [Nat.reduceSub, Nat.reduceEqDiff, if_false] at e4
        simp only [Nat.reduceSub, Nat.reduceEqDiff, if_false] at e6
        clear hdj
        refine wpOp_two rfl rfl ?_
        simp only [layL, Nat.reduceEqDiff, if_false, if_true, Act.put, List.getElem?_toArray, List.getElem?_cons_succ, List.getElem?_cons_zero, Option.bind_some, List.setIfInBounds_toArray, List.set_cons_succ, List.set_cons_zero, List.drop_succ_cons, List.drop_zero]
        generalize vs 0 = v0, vs 1 = v1, vs 2 = v2
        generalize vs 3 = v3 at *
        generalize vs 4 = v4 at *
        generalize vs 6 = v6 at *
        subst e3
        subst e4
        obtain ⟨hc, hf, hz⟩ := bcell hG
        obtain ⟨⟨b6, rfl, hb6, hb6', hB6⟩, hb6n⟩ := e6
        have hl6 : w7.heap.size < b6 := by omega
        obtain ⟨y0_, y1_, yf0, yf1, yl⟩ := hB6.two
        have HB6 := Lib.hid hB6
        have HGW := Lib.hid hG
        clear hB6 hb6' hG hc hf hz
        go_wp2_with fail
        go_meet
        case rel =>
          exact ⟨b6, rfl, rfl, by omega, (HB6.out.put 0 _).put 1 _, (HGW.out.setCell (by simp; omega) _).setCell (by simp; omega) _⟩
    case rest =>
      obtain ⟨b8, rfl, rfl, hb8, hB8, hg8⟩ := hcut
      rename World => w12
      have HG12 := Lib.hid (HG11.out.tr hg8)
      have hcc := HC11.out.grow hg8
      have q0 := hcc.cell (i := 0) rfl
      have q1 := hcc.cell (i := 1) rfl
      have q2 := hcc.cell (i := 2) rfl
      have q3 := hcc.cell (i := 3) rfl
      have ql := hcc.lt
      have HC12 := Lib.hid hcc
      have HS8 := Lib.hid hB8
      have HS7_12 := Lib.hid (HS7.out.grow hg8)
      clear hcc hg8 hB8
      go_upto_region 9 with fail
      go_cut [17, 18] (fun tp ev wx => ∃ b : Nat, tp = .pointer (some ⟨b, 0, none⟩) ∧ ev = .int .i64 0 ∧ w12.heap.size ≤ b ∧ Box wx b [.int .i64 2956, .int .i64 11700] 23 ∧ Gr w12 wx)
      case first =>
        refine regionL 7 5 ?_ ?_ ?_
        · kernel_rfl
        · kernel_rfl
        simp only [List.take_succ_cons, List.take_zero, List.drop_succ_cons, List.drop_zero]
        refine chainB_fact (V := SmpV) (D := []) rfl (by kernel_rfl) (SmpV.lasts) ?_ ?_
        · intro ρ W ⟨p1,p2,p3⟩ hG hF K hK; (try simp [FD, exB] at hF); have ⟨hc, hf, hz⟩ := bdr hG; go_simp; exact hK _ (gives_rel (sample_rel _))
        apply cbe (D := [(6, none)]) rfl (by kernel_rfl)
        · intro ρ W ⟨p1,p2,p3⟩ hG hF K hK; (try simp [FD, exB] at hF); have ⟨hc, hf, hz⟩ := bdr hG; go_simp; exact hK _ gv
        apply cbe (D := [(59, some 1), (60, some 0)]) rfl (by kernel_rfl)
        · intro ρ W ⟨p1,p2,p3⟩ hG hF K hK; (try simp [FD, exB] at hF); have ⟨hc, hf, hz⟩ := bdr hG; obtain ⟨⟨sp, cap, hv, hT⟩, hF2⟩ := hF; go_simp; exact hK _ (gc (mdeep_smp _ _ _ hT))
        apply cbe (D := [(61, some 0)]) rfl (by kernel_rfl)
        · intro ρ W ⟨p1,p2,p3⟩ hG hF K hK; (try simp [FD, exB] at hF); have ⟨hc, hf, hz⟩ := bdr hG; go_simp; exact hK _ gv
        apply cbe (D := [(58, some 0)]) rfl (by kernel_rfl)
        · intro ρ W ⟨p1,p2,p3⟩ hG hF K hK; (try simp [FD, exB] at hF); have ⟨hc, hf, hz⟩ := bdr hG; go_simp; exact hK _ gv
        apply cbe (D := [(58, some 1)]) rfl (by kernel_rfl)
        · intro ρ W ⟨p1,p2,p3⟩ hG hF K hK; (try simp [FD, exB] at hF); have ⟨hc, hf, hz⟩ := bdr hG; go_simp; exact hK _ gv
        refine chainB_any (V := fun p v W' => NewB [.int .i64 0, .int .i64 0] 23 p v W' ∧ w12.heap.size ≤ p.1) (D := []) rfl (by kernel_rfl) (fun p v A B h hg => ⟨NewB.lasts _ _ p v A B h.1 hg, h.2⟩) ?_ ?_
        · intro ρ W ⟨p1,p2,p3⟩ hG hF K hK; (try simp [FD, exB] at hF); have ⟨hc, hf, hz⟩ := bdr hG; go_simp; exact hK _ (⟨⟨NewB.new _ _ _, by have := hG.size; simpa using this⟩, Gr.alloc _ _⟩)
        refine chainB_done ⟨?_, ?_⟩
        · intro vs bs W hG hV hdj
          obtain ⟨e6, e5, e4, -⟩ := hV
          simp only [Nat.reduceSub] at e4 e5
          simp only [Nat.reduceSub] at e6
          clear hdj
          simp only [lay, Act.put, List.getElem?_toArray, List.getElem?_cons_succ, List.getElem?_cons_zero, Option.bind_some, List.setIfInBounds_toArray, List.set_cons_succ, List.set_cons_zero]
          generalize vs 0 = v0, vs 1 = v1, vs 2 = v2, vs 3 = v3
          generalize vs 4 = v4 at *
          generalize vs 5 = v5 at *
          generalize vs 6 = v6 at *
          subst e4
          subst e5
          obtain ⟨hc, hf, hz⟩ := bcell hG
          obtain ⟨⟨b6, rfl, hb6, hb6', hB6⟩, hb6n⟩ := e6
          have hl6 : w7.heap.size < b6 := by omega
          obtain ⟨y0_, y1_, yf0, yf1, yl⟩ := hB6.two
          have HB6 := Lib.hid hB6
          have HGW := Lib.hid hG
          clear hB6 hb6' hG hc hf hz
          go_wp2_with fail
          go_meet
          case rel =>
            exact ⟨b6, rfl, rfl, by omega, (HB6.out.put 0 _).put 1 _, (HGW.out.setCell (by simp; omega) _).setCell (by simp; omega) _⟩
        · intro vs bs W hG hV hdj
          obtain ⟨e6, -, e4, e3, -⟩ := hV
          simp only [Nat.reduceSub, Nat.reduceEqDiff, if_false] at e3
          simp only [Nat.reduceSub, Nat.reduceEqDiff, if_false] at e4
          simp only [Nat.reduceSub, Nat.reduceEqDiff, if_false] at e6
          clear hdj
          refine wpOp_two rfl rfl ?_
          simp only [layL, Nat.reduceEqDiff, if_false, if_true, Act.put, List.getElem?_toArray, List.getElem?_cons_succ, List.getElem?_cons_zero, Option.bind_some, List.setIfInBounds_toArray, List.set_cons_succ, List.set_cons_zero, List.drop_succ_cons, List.drop_zero]
          generalize vs 0 = v0, vs 1 = v1, vs 2 = v2
          generalize vs 3 = v3 at *
          generalize vs 4 = v4 at *
          generalize vs 6 = v6 at *
          subst e3
          subst e4
          obtain ⟨hc, hf, hz⟩ := bcell hG
          obtain ⟨⟨b6, rfl, hb6, hb6', hB6⟩, hb6n⟩ := e6
          have hl6 : w7.heap.size < b6 := by omega
          obtain ⟨y0_, y1_, yf0, yf1, yl⟩ := hB6.two
          have HB6 := Lib.hid hB6
          have HGW := Lib.hid hG
          clear hB6 hb6' hG hc hf hz
          go_wp2_with fail
          go_meet
          case rel =>
            exact ⟨b6, rfl, rfl, by omega, (HB6.out.put 0 _).put 1 _, (HGW.out.setCell (by simp; omega) _).setCell (by simp; omega) _⟩
      case rest =>
        obtain ⟨b9, rfl, rfl, hb9, hB9, hg9⟩ := hcut
        rename World => w13
        have HG13 := Lib.hid (HG12.out.tr hg9)
        have hcc := HC12.out.grow hg9
        have q0 := hcc.cell (i := 0) rfl
        have q1 := hcc.cell (i := 1) rfl
        have q2 := hcc.cell (i := 2) rfl
        have q3 := hcc.cell (i := 3) rfl
        have ql := hcc.lt
        have HC13 := Lib.hid hcc
        have HS9 := Lib.hid hB9
        have HS7_13 := Lib.hid (HS7_12.out.grow hg9)
        have HS8_13 := Lib.hid (HS8.out.grow hg9)
        clear hcc hg9 hB9
        have e0 := HS7_13.out.cell (i := 0) rfl
        have e1 := HS7_13.out.cell (i := 1) rfl
        have el := HS7_13.out.lt
        have r0 := HS8_13.out.cell (i := 0) rfl
        have r1 := HS8_13.out.cell (i := 1) rfl
        have rl := HS8_13.out.lt
        have d0 := HS9.out.cell (i := 0) rfl
        have d1 := HS9.out.cell (i := 1) rfl
        have dl := HS9.out.lt
        go_wp2_with fail
        refine region2 70 ?_ ?_ ?_
        · kernel_rfl
        · kernel_rfl
        simp only [List.take_succ_cons, List.take_zero, List.drop_succ_cons, List.drop_zero]
        apply ceq (D := [(1, none)]) rfl (by kernel_rfl)
        · intro ρ W ⟨p1,p2,p3⟩ hG hF K hK; (try simp [FD] at hF); have ⟨hc, hf, hz⟩ := bdr hG; go_simp; exact hK _ gv
        apply ceq (D := [(64, some 0)]) rfl (by kernel_rfl)
        · intro ρ W ⟨p1,p2,p3⟩ hG hF K hK; (try simp [FD] at hF); have ⟨hc, hf, hz⟩ := bdr hG; go_simp; exact hK _ gv
        apply ceq (D := [(65, some 0)]) rfl (by kernel_rfl)
        · intro ρ W ⟨p1,p2,p3⟩ hG hF K hK; (try simp [FD] at hF); have ⟨hc, hf, hz⟩ := bdr hG; go_simp; exact hK _ gv
        apply clq (D := [(2, none), (66, some 0)]) (by kernel_rfl)
        · intro ρ W hF; (try simp [FD] at hF); simp [Lets, *]
        · intro ρ W ⟨p1,p2,p3⟩ hG hF K hK; (try simp [FD] at hF); have ⟨hc, hf, hz⟩ := bdr hG; go_simp; exact hK _ gv
        apply clq (D := [(67, some 0), (66, some 1)]) (by kernel_rfl)
        · intro ρ W hF; (try simp [FD] at hF); simp [Lets, *]
        · intro ρ W ⟨p1,p2,p3⟩ hG hF K hK; (try simp [FD] at hF); have ⟨hc, hf, hz⟩ := bdr hG; go_simp; exact hK _ gv
        apply ceq (D := [(66, some 2), (68, some 0)]) rfl (by kernel_rfl)
        · intro ρ W ⟨p1,p2,p3⟩ hG hF K hK; (try simp [FD] at hF); have ⟨hc, hf, hz⟩ := bdr hG; go_simp; exact hK _ gv
        apply ceq (D := [(69, some 0)]) rfl (by kernel_rfl)
        · intro ρ W ⟨p1,p2,p3⟩ hG hF K hK; (try simp [FD] at hF); have ⟨hc, hf, hz⟩ := bdr hG; go_simp; exact hK _ gv
        apply clq (D := [(3, none), (70, some 0)]) (by kernel_rfl)
        · intro ρ W hF; (try simp [FD] at hF); simp [Lets, *]
        · intro ρ W ⟨p1,p2,p3⟩ hG hF K hK; (try simp [FD] at hF); have ⟨hc, hf, hz⟩ := bdr hG; go_simp; exact hK _ gv
        apply clq (D := [(71, some 0), (70, some 1)]) (by kernel_rfl)
        · intro ρ W hF; (try simp [FD] at hF); simp [Lets, *]
        · intro ρ W ⟨p1,p2,p3⟩ hG hF K hK; (try simp [FD] at hF); have ⟨hc, hf, hz⟩ := bdr hG; go_simp; exact hK _ gv
        apply ceq (D := [(70, some 2), (72, some 0)]) rfl (by kernel_rfl)
        · intro ρ W ⟨p1,p2,p3⟩ hG hF K hK; (try simp [FD] at hF); have ⟨hc, hf, hz⟩ := bdr hG; go_simp; exact hK _ gv
        apply ceq (D := [(73, some 0)]) rfl (by kernel_rfl)
        · intro ρ W ⟨p1,p2,p3⟩ hG hF K hK; (try simp [FD] at hF); have ⟨hc, hf, hz⟩ := bdr hG; go_simp; exact hK _ gv
        apply clq (D := [(4, none), (74, some 0)]) (by kernel_rfl)
        · intro ρ W hF; (try simp [FD] at hF); simp [Lets, *]
        · intro ρ W ⟨p1,p2,p3⟩ hG hF K hK; (try simp [FD] at hF); have ⟨hc, hf, hz⟩ := bdr hG; go_simp; exact hK _ gv
        apply clq (D := [(75, some 0), (74, some 1)]) (by kernel_rfl)
        · intro ρ W hF; (try simp [FD] at hF); simp [Lets, *]
        · intro ρ W ⟨p1,p2,p3⟩ hG hF K hK; (try simp [FD] at hF); have ⟨hc, hf, hz⟩ := bdr hG; go_simp; exact hK _ gv
        apply ceq (D := [(74, some 2), (76, some 0)]) rfl (by kernel_rfl)
        · intro ρ W ⟨p1,p2,p3⟩ hG hF K hK; (try simp [FD] at hF); have ⟨hc, hf, hz⟩ := bdr hG; go_simp; exact hK _ gv
        apply ceq (D := [(77, some 0)]) rfl (by kernel_rfl)
        · intro ρ W ⟨p1,p2,p3⟩ hG hF K hK; (try simp [FD] at hF); have ⟨hc, hf, hz⟩ := bdr hG; go_simp; exact hK _ gv
        apply clq (D := [(5, none), (78, some 0)]) (by kernel_rfl)
        · intro ρ W hF; (try simp [FD] at hF); simp [Lets, *]
        · intro ρ W ⟨p1,p2,p3⟩ hG hF K hK; (try simp [FD] at hF); have ⟨hc, hf, hz⟩ := bdr hG; go_simp; exact hK _ gv
        apply clq (D := [(79, some 0), (78, some 1)]) (by kernel_rfl)
        · intro ρ W hF; (try simp [FD] at hF); simp [Lets, *]
        · intro ρ W ⟨p1,p2,p3⟩ hG hF K hK; (try simp [FD] at hF); have ⟨hc, hf, hz⟩ := bdr hG; go_simp; exact hK _ gv
        apply ceq (D := [(78, some 2), (80, some 0)]) rfl (by kernel_rfl)
        · intro ρ W ⟨p1,p2,p3⟩ hG hF K hK; (try simp [FD] at hF); have ⟨hc, hf, hz⟩ := bdr hG; go_simp; exact hK _ gv
        apply ceq (D := [(81, some 0)]) rfl (by kernel_rfl)
        · intro ρ W ⟨p1,p2,p3⟩ hG hF K hK; (try simp [FD] at hF); have ⟨hc, hf, hz⟩ := bdr hG; go_simp; exact hK _ gv
        apply clq (D := [(6, none), (82, some 0)]) (by kernel_rfl)
        · intro ρ W hF; (try simp [FD] at hF); simp [Lets, *]
        · intro ρ W ⟨p1,p2,p3⟩ hG hF K hK; (try simp [FD] at hF); have ⟨hc, hf, hz⟩ := bdr hG; go_simp; exact hK _ gv
        apply clq (D := [(82, some 1)]) (by kernel_rfl)
        · intro ρ W hF; (try simp [FD] at hF); simp [Lets, *]
        · intro ρ W ⟨p1,p2,p3⟩ hG hF K hK; (try simp [FD] at hF); have ⟨hc, hf, hz⟩ := bdr hG; go_simp; exact hK _ (gc (lcuts_any _ _ _ _ _))
        apply clq (D := [(83, some 1), (84, some 0), (82, some 2)]) (by kernel_rfl)
        · intro ρ W hF; (try simp [FD] at hF); simp [Lets, *]
        · intro ρ W ⟨p1,p2,p3⟩ hG hF K hK; (try simp [FD] at hF); have ⟨hc, hf, hz⟩ := bdr hG; go_simp; exact hK _ gv
        apply ceq (D := [(82, some 3), (85, some 0)]) rfl (by kernel_rfl)
        · intro ρ W ⟨p1,p2,p3⟩ hG hF K hK; (try simp [FD] at hF); have ⟨hc, hf, hz⟩ := bdr hG; go_simp; exact hK _ gv
        apply ceq (D := [(86, some 0)]) rfl (by kernel_rfl)
        · intro ρ W ⟨p1,p2,p3⟩ hG hF K hK; (try simp [FD] at hF); have ⟨hc, hf, hz⟩ := bdr hG; go_simp; exact hK _ gv
        apply clq (D := [(7, none), (87, some 0)]) (by kernel_rfl)
        · intro ρ W hF; (try simp [FD] at hF); simp [Lets, *]
        · intro ρ W ⟨p1,p2,p3⟩ hG hF K hK; (try simp [FD] at hF); have ⟨hc, hf, hz⟩ := bdr hG; go_simp; exact hK _ gv
        apply clq (D := [(88, some 0), (87, some 1)]) (by kernel_rfl)
        · intro ρ W hF; (try simp [FD] at hF); simp [Lets, *]
        · intro ρ W ⟨p1,p2,p3⟩ hG hF K hK; (try simp [FD] at hF); have ⟨hc, hf, hz⟩ := bdr hG; go_simp; exact hK _ gv
        apply ceq (D := [(87, some 2), (89, some 0)]) rfl (by kernel_rfl)
        · intro ρ W ⟨p1,p2,p3⟩ hG hF K hK; (try simp [FD] at hF); have ⟨hc, hf, hz⟩ := bdr hG; go_simp; exact hK _ gv
        apply ceq (D := [(90, some 0)]) rfl (by kernel_rfl)
        · intro ρ W ⟨p1,p2,p3⟩ hG hF K hK; (try simp [FD] at hF); have ⟨hc, hf, hz⟩ := bdr hG; go_simp; exact hK _ gv
        apply clq (D := [(9, none), (91, some 0)]) (by kernel_rfl)
        · intro ρ W hF; (try simp [FD] at hF); simp [Lets, *]
        · intro ρ W ⟨p1,p2,p3⟩ hG hF K hK; (try simp [FD] at hF); have ⟨hc, hf, hz⟩ := bdr hG; go_simp; exact hK _ gv
        apply clq (D := [(92, some 0), (91, some 1)]) (by kernel_rfl)
        · intro ρ W hF; (try simp [FD] at hF); simp [Lets, *]
        · intro ρ W ⟨p1,p2,p3⟩ hG hF K hK; (try simp [FD] at hF); have ⟨hc, hf, hz⟩ := bdr hG; go_simp; exact hK _ gv
        apply ceq (D := [(91, some 2), (93, some 0)]) rfl (by kernel_rfl)
        · intro ρ W ⟨p1,p2,p3⟩ hG hF K hK; (try simp [FD] at hF); have ⟨hc, hf, hz⟩ := bdr hG; go_simp; exact hK _ gv
        apply ceq (D := [(94, some 0)]) rfl (by kernel_rfl)
        · intro ρ W ⟨p1,p2,p3⟩ hG hF K hK; (try simp [FD] at hF); have ⟨hc, hf, hz⟩ := bdr hG; go_simp; exact hK _ gv
        apply clq (D := [(10, none), (95, some 0)]) (by kernel_rfl)
        · intro ρ W hF; (try simp [FD] at hF); simp [Lets, *]
        · intro ρ W ⟨p1,p2,p3⟩ hG hF K hK; (try simp [FD] at hF); have ⟨hc, hf, hz⟩ := bdr hG; go_simp; exact hK _ gv
        apply clq (D := [(96, some 0), (95, some 1)]) (by kernel_rfl)
        · intro ρ W hF; (try simp [FD] at hF); simp [Lets, *]
        · intro ρ W ⟨p1,p2,p3⟩ hG hF K hK; (try simp [FD] at hF); have ⟨hc, hf, hz⟩ := bdr hG; go_simp; exact hK _ gv
        apply ceq (D := [(95, some 2), (97, some 0)]) rfl (by kernel_rfl)
        · intro ρ W ⟨p1,p2,p3⟩ hG hF K hK; (try simp [FD] at hF); have ⟨hc, hf, hz⟩ := bdr hG; go_simp; exact hK _ gv
        apply ceq (D := [(98, some 0)]) rfl (by kernel_rfl)
        · intro ρ W ⟨p1,p2,p3⟩ hG hF K hK; (try simp [FD] at hF); have ⟨hc, hf, hz⟩ := bdr hG; go_simp; exact hK _ gv
        apply clq (D := [(11, none), (99, some 0)]) (by kernel_rfl)
        · intro ρ W hF; (try simp [FD] at hF); simp [Lets, *]
        · intro ρ W ⟨p1,p2,p3⟩ hG hF K hK; (try simp [FD] at hF); have ⟨hc, hf, hz⟩ := bdr hG; go_simp; exact hK _ gv
        apply clq (D := [(100, some 0), (99, some 1)]) (by kernel_rfl)
        · intro ρ W hF; (try simp [FD] at hF); simp [Lets, *]
        · intro ρ W ⟨p1,p2,p3⟩ hG hF K hK; (try simp [FD] at hF); have ⟨hc, hf, hz⟩ := bdr hG; go_simp; exact hK _ gv
        apply ceq (D := [(99, some 2), (101, some 0)]) rfl (by kernel_rfl)
        · intro ρ W ⟨p1,p2,p3⟩ hG hF K hK; (try simp [FD] at hF); have ⟨hc, hf, hz⟩ := bdr hG; go_simp; exact hK _ gv
        apply ceq (D := [(102, some 0)]) rfl (by kernel_rfl)
        · intro ρ W ⟨p1,p2,p3⟩ hG hF K hK; (try simp [FD] at hF); have ⟨hc, hf, hz⟩ := bdr hG; go_simp; exact hK _ gv
        apply clq (D := [(12, none), (103, some 0)]) (by kernel_rfl)
        · intro ρ W hF; (try simp [FD] at hF); simp [Lets, *]
        · intro ρ W ⟨p1,p2,p3⟩ hG hF K hK; (try simp [FD] at hF); have ⟨hc, hf, hz⟩ := bdr hG; go_simp; exact hK _ gv
        apply clq (D := [(104, some 0), (103, some 1)]) (by kernel_rfl)
        · intro ρ W hF; (try simp [FD] at hF); simp [Lets, *]
        · intro ρ W ⟨p1,p2,p3⟩ hG hF K hK; (try simp [FD] at hF); have ⟨hc, hf, hz⟩ := bdr hG; go_simp; exact hK _ gv
        apply ceq (D := [(103, some 2), (105, some 0)]) rfl (by kernel_rfl)
        · intro ρ W ⟨p1,p2,p3⟩ hG hF K hK; (try simp [FD] at hF); have ⟨hc, hf, hz⟩ := bdr hG; go_simp; exact hK _ gv
        apply ceq (D := [(106, some 0)]) rfl (by kernel_rfl)
        · intro ρ W ⟨p1,p2,p3⟩ hG hF K hK; (try simp [FD] at hF); have ⟨hc, hf, hz⟩ := bdr hG; go_simp; exact hK _ gv
        apply clq (D := [(13, none), (107, some 0)]) (by kernel_rfl)
        · intro ρ W hF; (try simp [FD] at hF); simp [Lets, *]
        · intro ρ W ⟨p1,p2,p3⟩ hG hF K hK; (try simp [FD] at hF); have ⟨hc, hf, hz⟩ := bdr hG; go_simp; exact hK _ gv
        apply clq (D := [(107, some 1)]) (by kernel_rfl)
        · intro ρ W hF; (try simp [FD] at hF); simp [Lets, *]
        · intro ρ W ⟨p1,p2,p3⟩ hG hF K hK; (try simp [FD] at hF); have ⟨hc, hf, hz⟩ := bdr hG; go_simp; exact hK _ (gc (lspan_any _ _ _))
        apply clq (D := [(108, some 1), (109, some 0), (107, some 2)]) (by kernel_rfl)
        · intro ρ W hF; (try simp [FD] at hF); simp [Lets, *]
        · intro ρ W ⟨p1,p2,p3⟩ hG hF K hK; (try simp [FD] at hF); have ⟨hc, hf, hz⟩ := bdr hG; go_simp; exact hK _ gv
        apply ceq (D := [(107, some 3), (110, some 0)]) rfl (by kernel_rfl)
        · intro ρ W ⟨p1,p2,p3⟩ hG hF K hK; (try simp [FD] at hF); have ⟨hc, hf, hz⟩ := bdr hG; go_simp; exact hK _ gv
        apply ceq (D := [(111, some 0)]) rfl (by kernel_rfl)
        · intro ρ W ⟨p1,p2,p3⟩ hG hF K hK; (try simp [FD] at hF); have ⟨hc, hf, hz⟩ := bdr hG; go_simp; exact hK _ gv
        apply clq (D := [(14, none), (112, some 0)]) (by kernel_rfl)
        · intro ρ W hF; (try simp [FD] at hF); simp [Lets, *]
        · intro ρ W ⟨p1,p2,p3⟩ hG hF K hK; (try simp [FD] at hF); have ⟨hc, hf, hz⟩ := bdr hG; go_simp; exact hK _ gv
        apply clq (D := [(113, some 0), (112, some 1)]) (by kernel_rfl)
        · intro ρ W hF; (try simp [FD] at hF); simp [Lets, *]
        · intro ρ W ⟨p1,p2,p3⟩ hG hF K hK; (try simp [FD] at hF); have ⟨hc, hf, hz⟩ := bdr hG; go_simp; exact hK _ gv
        apply ceq (D := [(112, some 2), (114, some 0)]) rfl (by kernel_rfl)
        · intro ρ W ⟨p1,p2,p3⟩ hG hF K hK; (try simp [FD] at hF); have ⟨hc, hf, hz⟩ := bdr hG; go_simp; exact hK _ gv
        apply ceq (D := [(115, some 0)]) rfl (by kernel_rfl)
        · intro ρ W ⟨p1,p2,p3⟩ hG hF K hK; (try simp [FD] at hF); have ⟨hc, hf, hz⟩ := bdr hG; go_simp; exact hK _ gv
        apply clq (D := [(15, none), (116, some 0)]) (by kernel_rfl)
        · intro ρ W hF; (try simp [FD] at hF); simp [Lets, *]
        · intro ρ W ⟨p1,p2,p3⟩ hG hF K hK; (try simp [FD] at hF); have ⟨hc, hf, hz⟩ := bdr hG; go_simp; exact hK _ gv
        apply clq (D := [(116, some 1)]) (by kernel_rfl)
        · intro ρ W hF; (try simp [FD] at hF); simp [Lets, *]
        · intro ρ W ⟨p1,p2,p3⟩ hG hF K hK; (try simp [FD] at hF); have ⟨hc, hf, hz⟩ := bdr hG; go_simp; exact hK _ (gc (lspan_any _ _ _))
        apply clq (D := [(117, some 1), (118, some 0), (116, some 2)]) (by kernel_rfl)
        · intro ρ W hF; (try simp [FD] at hF); simp [Lets, *]
        · intro ρ W ⟨p1,p2,p3⟩ hG hF K hK; (try simp [FD] at hF); have ⟨hc, hf, hz⟩ := bdr hG; go_simp; exact hK _ gv
        apply ceq (D := [(116, some 3), (119, some 0)]) rfl (by kernel_rfl)
        · intro ρ W ⟨p1,p2,p3⟩ hG hF K hK; (try simp [FD] at hF); have ⟨hc, hf, hz⟩ := bdr hG; go_simp; exact hK _ gv
        apply ceq (D := [(120, some 0)]) rfl (by kernel_rfl)
        · intro ρ W ⟨p1,p2,p3⟩ hG hF K hK; (try simp [FD] at hF); have ⟨hc, hf, hz⟩ := bdr hG; go_simp; exact hK _ gv
        apply clq (D := [(16, none), (121, some 0)]) (by kernel_rfl)
        · intro ρ W hF; (try simp [FD] at hF); simp [Lets, *]
        · intro ρ W ⟨p1,p2,p3⟩ hG hF K hK; (try simp [FD] at hF); have ⟨hc, hf, hz⟩ := bdr hG; go_simp; exact hK _ gv
        apply clq (D := [(122, some 0), (121, some 1)]) (by kernel_rfl)
        · intro ρ W hF; (try simp [FD] at hF); simp [Lets, *]
        · intro ρ W ⟨p1,p2,p3⟩ hG hF K hK; (try simp [FD] at hF); have ⟨hc, hf, hz⟩ := bdr hG; go_simp; exact hK _ gv
        apply ceq (D := [(121, some 2), (123, some 0)]) rfl (by kernel_rfl)
        · intro ρ W ⟨p1,p2,p3⟩ hG hF K hK; (try simp [FD] at hF); have ⟨hc, hf, hz⟩ := bdr hG; go_simp; exact hK _ gv
        apply ceq (D := [(124, some 0)]) rfl (by kernel_rfl)
        · intro ρ W ⟨p1,p2,p3⟩ hG hF K hK; (try simp [FD] at hF); have ⟨hc, hf, hz⟩ := bdr hG; go_simp; exact hK _ gv
        apply clq (D := [(17, none), (125, some 0)]) (by kernel_rfl)
        · intro ρ W hF; (try simp [FD] at hF); simp [Lets, *]
        · intro ρ W ⟨p1,p2,p3⟩ hG hF K hK; (try simp [FD] at hF); have ⟨hc, hf, hz⟩ := bdr hG; go_simp; exact hK _ gv
        apply clq (D := [(125, some 1)]) (by kernel_rfl)
        · intro ρ W hF; (try simp [FD] at hF); simp [Lets, *]
        · intro ρ W ⟨p1,p2,p3⟩ hG hF K hK; (try simp [FD] at hF); have ⟨hc, hf, hz⟩ := bdr hG; go_simp; exact hK _ (gc (lspan_any _ _ _))
        apply clq (D := [(126, some 1), (127, some 0), (125, some 2)]) (by kernel_rfl)
        · intro ρ W hF; (try simp [FD] at hF); simp [Lets, *]
        · intro ρ W ⟨p1,p2,p3⟩ hG hF K hK; (try simp [FD] at hF); have ⟨hc, hf, hz⟩ := bdr hG; go_simp; exact hK _ gv
        apply ceq (D := [(125, some 3), (128, some 0)]) rfl (by kernel_rfl)
        · intro ρ W ⟨p1,p2,p3⟩ hG hF K hK; (try simp [FD] at hF); have ⟨hc, hf, hz⟩ := bdr hG; go_simp; exact hK _ gv
        apply ceq (D := [(129, some 0)]) rfl (by kernel_rfl)
        · intro ρ W ⟨p1,p2,p3⟩ hG hF K hK; (try simp [FD] at hF); have ⟨hc, hf, hz⟩ := bdr hG; go_simp; exact hK _ gv
        apply clq (D := [(18, none), (130, some 0)]) (by kernel_rfl)
        · intro ρ W hF; (try simp [FD] at hF); simp [Lets, *]
        · intro ρ W ⟨p1,p2,p3⟩ hG hF K hK; (try simp [FD] at hF); have ⟨hc, hf, hz⟩ := bdr hG; go_simp; exact hK _ gv
        apply clq (D := [(131, some 0), (130, some 1)]) (by kernel_rfl)
        · intro ρ W hF; (try simp [FD] at hF); simp [Lets, *]
        · intro ρ W ⟨p1,p2,p3⟩ hG hF K hK; (try simp [FD] at hF); have ⟨hc, hf, hz⟩ := bdr hG; go_simp; exact hK _ gv
        apply ceq (D := [(130, some 2), (132, some 0)]) rfl (by kernel_rfl)
        · intro ρ W ⟨p1,p2,p3⟩ hG hF K hK; (try simp [FD] at hF); have ⟨hc, hf, hz⟩ := bdr hG; go_simp; exact hK _ gv
        refine cdn ?_
        intro vs W hG hV
        obtain ⟨e69, -⟩ := hV
        simp only [Nat.reduceSub] at e69
        have HG14 := Lib.hid (HG13.out.tr hG)
        clear hG
        refine lay_tail (i := 69) (t := 133) (d := 0) (x := .bool true) rfl rfl rfl (by decide) (by kernel_rfl) (Nat.le_of_ble_eq_true (n := 134) (by kernel_rfl)) (by kernel_rfl) e69 ?_
        intro B hBd hBs
        go_wp2_with fail
        refine bodyPost_ret (v := .bool true) (by simp [results, Tryz.results13, Act.put, hBs, go_sem]) (by simp [Act.put, hBd]) ⟨rfl, HG14.out⟩
theorem World.size_alloc (w : World) (o : Obj) : (w.alloc o).heap.size = w.heap.size + 1 := by simp
theorem eyes_is {k : Cd} {u : Cu} {x y e : Int} {w : World} (h : k.eyesA u = (x, y, e)) (hT : TsA k.p.l (.slice k.sp k.p.l.length k.cap) w) :
    Calls Tryz.prog 18 #[.agg k.cs.toArray, .agg #[.int .i64 u.a, .int .i64 u.b, .int .i64 u.c, .int .i64 u.d]] w fun e' w' => e' = .returned (.tuple #[.agg #[.int .i64 x, .int .i64 y], .int .i64 e]) ∧ Below w.heap.size w w' := by
  have := Eyes_any k u w hT
  rw [h] at this
  exact this
theorem hurts_is {k : Cd} {u : Cu} {x y e : Int} {w : World} (h : k.hurtsA u = (x, y, e)) (hT : TsA k.p.l (.slice k.sp k.p.l.length k.cap) w) :
    Calls Tryz.prog 16 #[.agg k.cs.toArray, .agg #[.int .i64 u.a, .int .i64 u.b, .int .i64 u.c, .int .i64 u.d]] w fun e' w' => e' = .returned (.tuple #[.int .i64 x, .int .i64 y, .int .i64 e]) ∧ Below w.heap.size w w' := by
  have := Hurts_any k u w hT
  rw [h] at this
  exact this
theorem seen_is {k : Cd} {x e : Int} {w : World} (h : k.seenA = (x, e)) (hT : TsA k.p.l (.slice k.sp k.p.l.length k.cap) w) :
    Calls Tryz.prog 14 #[.agg k.cs.toArray] w fun e' w' => e' = .returned (.tuple #[.int .i64 x, .int .i64 e]) ∧ Below w.heap.size w w' := by
  have := Seen_any k w hT
  rw [h] at this
  exact this
theorem card_is {k : Cd} {b : Bool} {w : World} (h : (k.okc && k.p.ok) = b) (hT : TsA k.p.l (.slice k.sp k.p.l.length k.cap) w) :
    Calls Tryz.prog 24 #[.agg k.cs.toArray] w fun e' w' => e' = .returned (.bool b) ∧ Below w.heap.size w w' := by
  have := rcard_any k w hT
  rw [h] at this
  exact this
end Go.Proofs.YtcngaohfemdfjaaGreat
