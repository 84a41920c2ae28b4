import Derived.Test.YtcngaohfemdfjaaGreatH0
set_option linter.unusedVariables false
set_option linter.unusedSimpArgs false
set_option maxRecDepth 100000
set_option maxHeartbeats 60000000
namespace Go.Proofs.YtcngaohfemdfjaaGreat
open Go.RowKit
theorem rwhy_core (p : Pr) (tb tof len cap n : Nat) (xa xb xc xd xe xf xg xh xz x y q1 q2 : Int) (w : World) (hT : TsA p.l (.slice (some ⟨tb, tof, none⟩) len cap) w) (hcs : Hid (∀ i t, p.l[i]? = some t → CsF w tb (tof + i * 9) t.vals)) (htb : tb < w.heap.size) (hl : len ≤ 1000) (hkl : n < len) (HK : Hid (p.l[n]? = some ⟨xa, xb, xc, xd, xe, xf, xg, xh, xz⟩)) (ho : Hid (p.ropen true = (x, y, 0)))
    (HPT : Hid (∀ (v : Value) (w : World), Calls Tryz.prog 124 #[.agg #[.int .i64 p.fl, .int .i64 p.fh, .int .i64 p.bl, .int .i64 p.bh, .int .i64 p.ti, .int .i64 p.ne, .int .i64 p.fa, v], .agg #[.int .i64 xa, .int .i64 xb, .int .i64 xc, .int .i64 xd, .int .i64 xe, .int .i64 xf, .int .i64 xg, .int .i64 xh, .int .i64 xz]] w fun e w' => e = .returned (.agg #[.int .i64 q1, .int .i64 q2]) ∧ Below w.heap.size w w'))
    (bd : -4000 ≤ xd ∧ xd ≤ 4000) (bh : -4000 ≤ xh ∧ xh ≤ 4000) (bt : 0 ≤ p.ti ∧ p.ti ≤ 1000) (ba : -4000 ≤ xa ∧ xa ≤ 4000) (bb : -4000 ≤ xb ∧ xb ≤ 4000) (be : -4000 ≤ xe ∧ xe ≤ 4000) (bf : -4000 ≤ xf ∧ xf ≤ 4000) (bn : 0 ≤ p.ne ∧ p.ne ≤ 1073741824) (em lv k1 k2 k3 : Bool) (hem : decide ((ovl (x, y) (q1, q2)).2 < (ovl (x, y) (q1, q2)).1) = em) (hlv : (decide (xc ≤ xh + p.ti) && decide (xg ≤ xd + p.ti)) = lv) (h1 : decide (xb - xe < 0) = k1) (h2 : decide (2000 < xa - xf) = k2) (h3 : decide (y < (xa - xf) * p.ne) = k3) (r : Int) (hr : r = if em = false then 0 else if lv = false then 1 else if k1 = true then 2 else if (k2 || k3) = true then 3 else 4) :
    Calls Tryz.prog 93 #[.agg #[.int .i64 p.fl, .int .i64 p.fh, .int .i64 p.bl, .int .i64 p.bh, .int .i64 p.ti, .int .i64 p.ne, .int .i64 p.fa, .slice (some ⟨tb, tof, none⟩) len cap], .int .i64 n] w fun e w' => e = .returned (.tuple #[.int .i64 r, .int .i64 0]) ∧ Below w.heap.size w w' := by
  have TH := Lib.hid (fun (W : World) (hg : Gr (w.alloc (Obj.cells #[.int .i64 p.fl, .int .i64 p.fh, .int .i64 p.bl, .int .i64 p.bh, .int .i64 p.ti, .int .i64 p.ne, .int .i64 p.fa, .slice (some ⟨tb, tof, none⟩) len cap] 26)) W) => TsA.lasts p.l _ _ _ hT ((Gr.alloc _ _).tr hg))
  have HCX := Lib.hid (fun (W : World) (hg : Gr (w.alloc (Obj.cells #[.int .i64 p.fl, .int .i64 p.fh, .int .i64 p.bl, .int .i64 p.bh, .int .i64 p.ti, .int .i64 p.ne, .int .i64 p.fa, .slice (some ⟨tb, tof, none⟩) len cap] 26)) W) => (hcs.out n _ HK.out).grow htb ((Gr.alloc _ _).tr hg))
  have HTH : Hid (∀ (W : World), Calls Tryz.prog 121 #[.agg #[.int .i64 p.fl, .int .i64 p.fh, .int .i64 p.bl, .int .i64 p.bh, .int .i64 p.ti, .int .i64 p.ne, .int .i64 p.fa, .slice (some ⟨tb, tof, none⟩) len cap], .int .i64 (n : Int)] W fun e w' => e = .returned (.bool true) ∧ Below W.heap.size W w') := Lib.hid fun W => by
    have e : (decide (0 ≤ (n : Int)) && decide ((n : Int) < (len : Int))) = true := by simp; omega
    have := rthing_any p.fl p.fh p.bl p.bh p.ti p.ne p.fa (n : Int) (some ⟨tb, tof, none⟩) len cap W hl
    rwa [e] at this
  have HLV : Hid (∀ W : World, Calls Tryz.prog 125 #[.agg #[.int .i64 xa, .int .i64 xb, .int .i64 xc, .int .i64 xd, .int .i64 xe, .int .i64 xf, .int .i64 xg, .int .i64 xh, .int .i64 xz], .int .i64 p.ti] W fun e w' => e = .returned (.bool lv) ∧ Below W.heap.size W w') := Lib.hid fun W => by
    have := rlevel_any xa xb xc xd xe xf xg xh xz p.ti W bd bh bt
    rwa [hlv] at this
  have HOF := Lib.hid (fun W => rof_any xa xb xc xd xe xf xg xh xz W ba bb be bf)
  obtain ⟨o1, o2, hov⟩ : ∃ o1 o2, ovl (x, y) (q1, q2) = (o1, o2) := ⟨_, _, rfl⟩
  have HC : Hid (∀ W : World, Calls Tryz.prog 123 #[.agg #[.int .i64 x, .int .i64 y], .agg #[.int .i64 q1, .int .i64 q2]] W fun e w' => e = .returned (.agg #[.int .i64 o1, .int .i64 o2]) ∧ Below W.heap.size W w') := Lib.hid fun W => by
    have := rcommon_any x y q1 q2 W
    rwa [hov] at this
  rw [hov] at hem
  simp only at hem
  have HE : Hid (∀ W : World, Calls Tryz.prog 122 #[.agg #[.int .i64 o1, .int .i64 o2]] W fun e w' => e = .returned (.bool em) ∧ Below W.heap.size W w') := Lib.hid fun W => by
    have := rempty_any o1 o2 W
    rwa [hem] at this
  have HB0 := Lib.hid (Box.fresh w [.int .i64 p.fl, .int .i64 p.fh, .int .i64 p.bl, .int .i64 p.bh, .int .i64 p.ti, .int .i64 p.ne, .int .i64 p.fa, .slice (some ⟨tb, tof, none⟩) len cap] 26)
  have HG0 := Lib.hid (Gr.alloc w (Obj.cells #[.int .i64 p.fl, .int .i64 p.fh, .int .i64 p.bl, .int .i64 p.bh, .int .i64 p.ti, .int .i64 p.ne, .int .i64 p.fa, .slice (some ⟨tb, tof, none⟩) len cap] 26))
  have hbl := HB0.out.lt
  have hR := Lib.hid hr
  have hp1 : -8000 ≤ xa - xf ∧ xa - xf ≤ 8000 := by omega
  have hp2 : -8000 * 1073741824 ≤ (xa - xf) * p.ne ∧ (xa - xf) * p.ne ≤ 8000 * 1073741824 := by
    constructor
    · have a1 : -8000 * p.ne ≤ (xa - xf) * p.ne := Int.mul_le_mul_of_nonneg_right hp1.1 bn.1
      omega
    · have a1 : (xa - xf) * p.ne ≤ 8000 * p.ne := Int.mul_le_mul_of_nonneg_right hp1.2 bn.1
      omega
  obtain ⟨hp20, hp21⟩ := hp2
  clear hT hcs hem hlv hov hr hp1
  go_enter Tryz.func93, Tryz.ntmps93
  go_upto_region 1 with fail
  generalize (w.alloc (Obj.cells #[.int .i64 p.fl, .int .i64 p.fh, .int .i64 p.bl, .int .i64 p.bh, .int .i64 p.ti, .int .i64 p.ne, .int .i64 p.fa, .slice (some ⟨tb, tof, none⟩) len cap] 26)) = V0 at *
  generalize w.heap.size = b0 at *
  have c0 := HB0.out.cell (i := 0) rfl
  have c1 := HB0.out.cell (i := 1) rfl
  have c2 := HB0.out.cell (i := 2) rfl
  have c3 := HB0.out.cell (i := 3) rfl
  have c4 := HB0.out.cell (i := 4) rfl
  have c5 := HB0.out.cell (i := 5) rfl
  have c6 := HB0.out.cell (i := 6) rfl
  have c7 := HB0.out.cell (i := 7) rfl
  have cl := HB0.out.lt
  go_cut [6, 7] (fun tp ev wx => ∃ b : Nat, tp = .pointer (some ⟨b, 0, none⟩) ∧ ev = .int .i64 0 ∧ V0.heap.size ≤ b ∧ Box wx b [.int .i64 x, .int .i64 y] 23 ∧ Gr V0 wx)
  case first =>
    refine regionL 9 7 ?_ ?_ ?_
    · kernel_rfl
    · kernel_rfl
    simp only [List.take_succ_cons, List.take_zero, List.drop_succ_cons, List.drop_zero]
    apply cbe (D := [(2, none)]) rfl (by kernel_rfl)
    · intro ρ W ⟨p1,p2,p3⟩ hG hF K hK; (try simp [FD, exB] at hF); have ⟨hc, hf, hz⟩ := bdr hG; go_simp; exact hK _ gv
    apply cbe (D := [(2, none)]) rfl (by kernel_rfl)
    · intro ρ W ⟨p1,p2,p3⟩ hG hF K hK; (try simp [FD, exB] at hF); have ⟨hc, hf, hz⟩ := bdr hG; go_simp; exact hK _ gv
    apply cbe (D := [(1, none)]) rfl (by kernel_rfl)
    · intro ρ W ⟨p1,p2,p3⟩ hG hF K hK; (try simp [FD, exB] at hF); have ⟨hc, hf, hz⟩ := bdr hG; go_simp; exact hK _ gv
    apply cbe (D := [(12, some 1), (13, some 0)]) rfl (by kernel_rfl)
    · intro ρ W ⟨p1,p2,p3⟩ hG hF K hK; (try simp [FD, exB] at hF); have ⟨hc, hf, hz⟩ := bdr hG; go_simp; exact hK _ (gc (HTH.out _))
    apply cbe (D := [(11, some 3), (14, some 0)]) rfl (by kernel_rfl)
    · intro ρ W ⟨p1,p2,p3⟩ hG hF K hK; (try simp [FD, exB] at hF); have ⟨hc, hf, hz⟩ := bdr hG; go_simp; exact hK _ (gc (ropen_is ho.out (TH.out _ ((Gr.drew _).tr hG))))
    apply cbe (D := [(15, some 0)]) rfl (by kernel_rfl)
    · intro ρ W ⟨p1,p2,p3⟩ hG hF K hK; (try simp [FD, exB] at hF); have ⟨hc, hf, hz⟩ := bdr hG; go_simp; exact hK _ gv
    apply cbe (D := [(10, some 0)]) rfl (by kernel_rfl)
    · intro ρ W ⟨p1,p2,p3⟩ hG hF K hK; (try simp [FD, exB] at hF); have ⟨hc, hf, hz⟩ := bdr hG; go_simp; exact hK _ gv
    apply cbe (D := [(10, some 1)]) rfl (by kernel_rfl)
    · intro ρ W ⟨p1,p2,p3⟩ hG hF K hK; (try simp [FD, exB] at hF); have ⟨hc, hf, hz⟩ := bdr hG; go_simp; exact hK _ gv
    refine chainB_any (V := fun p v W' => NewB [.int .i64 0, .int .i64 0] 23 p v W' ∧ V0.heap.size ≤ p.1) (D := []) rfl (by kernel_rfl) (fun p v A B h hg => ⟨NewB.lasts _ _ p v A B h.1 hg, h.2⟩) ?_ ?_
    · intro ρ W ⟨p1,p2,p3⟩ hG hF K hK; (try simp [FD, exB] at hF); have ⟨hc, hf, hz⟩ := bdr hG; go_simp; exact hK _ (⟨⟨NewB.new _ _ _, by have := hG.size; simpa using this⟩, Gr.alloc _ _⟩)
    refine chainB_done ⟨?_, ?_⟩
    · intro vs bs W hG hV hdj
      obtain ⟨e8, e7, e6, -⟩ := hV
      simp only [Nat.reduceSub] at e6 e7
      simp only [Nat.reduceSub] at e8
      clear hdj
      simp only [lay, Act.put, List.getElem?_toArray, List.getElem?_cons_succ, List.getElem?_cons_zero, Option.bind_some, List.setIfInBounds_toArray, List.set_cons_succ, List.set_cons_zero]
      generalize vs 0 = v0, vs 1 = v1, vs 2 = v2, vs 3 = v3, vs 4 = v4, vs 5 = v5
      generalize vs 6 = v6 at *
      generalize vs 7 = v7 at *
      generalize vs 8 = v8 at *
      subst e6
      subst e7
      obtain ⟨hc, hf, hz⟩ := bcell hG
      obtain ⟨⟨b8, rfl, hb8, hb8', hB8⟩, hb8n⟩ := e8
      have hl8 : b0 < b8 := by omega
      obtain ⟨y0_, y1_, yf0, yf1, yl⟩ := hB8.two
      have HB8 := Lib.hid hB8
      have HGW := Lib.hid hG
      clear hB8 hb8' hG hc hf hz
      go_wp2_with fail
      go_meet
      case rel =>
        exact ⟨b8, rfl, rfl, by omega, (HB8.out.put 0 _).put 1 _, (HGW.out.setCell (by simp; omega) _).setCell (by simp; omega) _⟩
    · intro vs bs W hG hV hdj
      obtain ⟨e8, -, e6, e5, -⟩ := hV
      simp only [Nat.reduceSub, Nat.reduceEqDiff, if_false] at e5
      simp only [Nat.reduceSub, Nat.reduceEqDiff, if_false] at e6
      simp only [Nat.reduceSub, Nat.reduceEqDiff, if_false] at e8
      clear hdj
      refine wpOp_two rfl rfl ?_
      simp only [layL, Nat.reduceEqDiff, if_false, if_true, Act.put, List.getElem?_toArray, List.getElem?_cons_succ, List.getElem?_cons_zero, Option.bind_some, List.setIfInBounds_toArray, List.set_cons_succ, List.set_cons_zero, List.drop_succ_cons, List.drop_zero]
      generalize vs 0 = v0, vs 1 = v1, vs 2 = v2, vs 3 = v3, vs 4 = v4
      generalize vs 5 = v5 at *
      generalize vs 6 = v6 at *
      generalize vs 8 = v8 at *
      subst e5
      subst e6
      obtain ⟨hc, hf, hz⟩ := bcell hG
      obtain ⟨⟨b8, rfl, hb8, hb8', hB8⟩, hb8n⟩ := e8
      have hl8 : b0 < b8 := by omega
      obtain ⟨y0_, y1_, yf0, yf1, yl⟩ := hB8.two
      have HB8 := Lib.hid hB8
      have HGW := Lib.hid hG
      clear hB8 hb8' hG hc hf hz
      go_wp2_with fail
      go_meet
      case rel =>
        exact ⟨b8, rfl, rfl, by omega, (HB8.out.put 0 _).put 1 _, (HGW.out.setCell (by simp; omega) _).setCell (by simp; omega) _⟩
  case rest =>
    obtain ⟨b, rfl, rfl, hbb, hB, hg⟩ := hcut
    rename World => w3
    have hX := HCX.out w3 hg
    have X := CsF.nine hX
    have htb3 : tb < w3.heap.size := by have := hg.size; omega
    simp only at X
    have hbt : b < w3.heap.size := hB.lt
    have HB3 := Lib.hid (HB0.out.grow hg)
    have HR3 := Lib.hid hB
    have HV3 := Lib.hid hg
    clear hX hg hB c0 c1 c2 c3 c4 c5 c6 c7 cl
    have c0 := HB3.out.cell (i := 0) rfl
    have c1 := HB3.out.cell (i := 1) rfl
    have c2 := HB3.out.cell (i := 2) rfl
    have c3 := HB3.out.cell (i := 3) rfl
    have c4 := HB3.out.cell (i := 4) rfl
    have c5 := HB3.out.cell (i := 5) rfl
    have c6 := HB3.out.cell (i := 6) rfl
    have c7 := HB3.out.cell (i := 7) rfl
    have cl := HB3.out.lt
    go_wp2_with fail
    have hga := Gr.alloc w3 (Obj.cells #[.int .i64 xa, .int .i64 xb, .int .i64 xc, .int .i64 xd, .int .i64 xe, .int .i64 xf, .int .i64 xg, .int .i64 xh, .int .i64 xz] 52)
    have HT4 := Lib.hid (Box.fresh w3 [.int .i64 xa, .int .i64 xb, .int .i64 xc, .int .i64 xd, .int .i64 xe, .int .i64 xf, .int .i64 xg, .int .i64 xh, .int .i64 xz] 52)
    have HB4 := Lib.hid (HB3.out.grow hga)
    have HR4 := Lib.hid (HR3.out.grow hga)
    have HV4 := Lib.hid (Gr.tr HV3.out hga)
    clear X hga HB3 HR3 HV3 c0 c1 c2 c3 c4 c5 c6 c7 cl
    generalize (w3.alloc (Obj.cells #[.int .i64 xa, .int .i64 xb, .int .i64 xc, .int .i64 xd, .int .i64 xe, .int .i64 xf, .int .i64 xg, .int .i64 xh, .int .i64 xz] 52)) = W4 at *
    generalize w3.heap.size = bw at *
    have c0 := HB4.out.cell (i := 0) rfl
    have c1 := HB4.out.cell (i := 1) rfl
    have c2 := HB4.out.cell (i := 2) rfl
    have c3 := HB4.out.cell (i := 3) rfl
    have c4 := HB4.out.cell (i := 4) rfl
    have c5 := HB4.out.cell (i := 5) rfl
    have c6 := HB4.out.cell (i := 6) rfl
    have c7 := HB4.out.cell (i := 7) rfl
    have cl := HB4.out.lt
    have r0 := HR4.out.cell (i := 0) rfl
    have r1 := HR4.out.cell (i := 1) rfl
    have rl := HR4.out.lt
    have t0 := HT4.out.cell (i := 0) rfl
    have t1 := HT4.out.cell (i := 1) rfl
    have t2 := HT4.out.cell (i := 2) rfl
    have t3 := HT4.out.cell (i := 3) rfl
    have t4 := HT4.out.cell (i := 4) rfl
    have t5 := HT4.out.cell (i := 5) rfl
    have t6 := HT4.out.cell (i := 6) rfl
    have t7 := HT4.out.cell (i := 7) rfl
    have t8 := HT4.out.cell (i := 8) rfl
    have tl := HT4.out.lt
    refine region2 6 ?_ ?_ ?_
    · kernel_rfl
    · kernel_rfl
    simp only [List.take_succ_cons, List.take_zero, List.drop_succ_cons, List.drop_zero]
    apply ceq (D := [(6, none)]) rfl (by kernel_rfl)
    · intro ρ W ⟨p1,p2,p3⟩ hG hF K hK; (try simp [FD] at hF); have ⟨hc, hf, hz⟩ := bdr hG; go_simp; exact hK _ gv
    apply ceq (D := [(2, none)]) rfl (by kernel_rfl)
    · intro ρ W ⟨p1,p2,p3⟩ hG hF K hK; (try simp [FD] at hF); have ⟨hc, hf, hz⟩ := bdr hG; go_simp; exact hK _ gv
    apply ceq (D := [(8, none)]) rfl (by kernel_rfl)
    · intro ρ W ⟨p1,p2,p3⟩ hG hF K hK; (try simp [FD] at hF); have ⟨hc, hf, hz⟩ := bdr hG; go_simp; exact hK _ gv
    apply ceq (D := [(27, some 1), (28, some 0)]) rfl (by kernel_rfl)
    · intro ρ W ⟨p1,p2,p3⟩ hG hF K hK; (try simp [FD] at hF); have ⟨hc, hf, hz⟩ := bdr hG; go_simp; exact hK _ (gc (HPT.out _ _))
    apply ceq (D := [(26, some 3), (29, some 0)]) rfl (by kernel_rfl)
    · intro ρ W ⟨p1,p2,p3⟩ hG hF K hK; (try simp [FD] at hF); have ⟨hc, hf, hz⟩ := bdr hG; go_simp; exact hK _ (gc (HC.out _))
    apply ceq (D := [(30, some 0)]) rfl (by kernel_rfl)
    · intro ρ W ⟨p1,p2,p3⟩ hG hF K hK; (try simp [FD] at hF); have ⟨hc, hf, hz⟩ := bdr hG; go_simp; exact hK _ (gc (HE.out _))
    refine cdn ?_
    intro vs W hG hV
    obtain ⟨e5, -⟩ := hV
    simp only [Nat.reduceSub] at e5
    simp only [lay, Act.put, List.getElem?_toArray, List.getElem?_cons_succ, List.getElem?_cons_zero, Option.bind_some, List.setIfInBounds_toArray, List.set_cons_succ, List.set_cons_zero]
    generalize vs 0 = v0, vs 1 = v1, vs 2 = v2, vs 3 = v3, vs 4 = v4
    generalize vs 5 = v5 at *
    subst e5
    obtain ⟨hc, hf, hz⟩ := bcell hG
    clear c0 c1 c2 c3 c4 c5 c6 c7 cl r0 r1 rl t0 t1 t2 t3 t4 t5 t6 t7 t8 tl
    have hga : Gr W4 W := hG
    have HV5 := Lib.hid (Gr.tr HV4.out hga)
    have HB5 := Lib.hid (HB4.out.grow hga)
    have HR5 := Lib.hid (HR4.out.grow hga)
    have HT5 := Lib.hid (HT4.out.grow hga)
    clear hc hf hz hG hga HB4 HR4 HT4 HV4
    have c0 := HB5.out.cell (i := 0) rfl
    have c1 := HB5.out.cell (i := 1) rfl
    have c2 := HB5.out.cell (i := 2) rfl
    have c3 := HB5.out.cell (i := 3) rfl
    have c4 := HB5.out.cell (i := 4) rfl
    have c5 := HB5.out.cell (i := 5) rfl
    have c6 := HB5.out.cell (i := 6) rfl
    have c7 := HB5.out.cell (i := 7) rfl
    have cl := HB5.out.lt
    have r0 := HR5.out.cell (i := 0) rfl
    have r1 := HR5.out.cell (i := 1) rfl
    have rl := HR5.out.lt
    have t0 := HT5.out.cell (i := 0) rfl
    have t1 := HT5.out.cell (i := 1) rfl
    have t2 := HT5.out.cell (i := 2) rfl
    have t3 := HT5.out.cell (i := 3) rfl
    have t4 := HT5.out.cell (i := 4) rfl
    have t5 := HT5.out.cell (i := 5) rfl
    have t6 := HT5.out.cell (i := 6) rfl
    have t7 := HT5.out.cell (i := 7) rfl
    have t8 := HT5.out.cell (i := 8) rfl
    have tl := HT5.out.lt
    cases em with
    | false =>
      go_wp2_with fail
      exact bodyPost_ret (v := .tuple #[.int .i64 0, .int .i64 0]) (by simp [results, Tryz.results93, go_sem]) rfl ⟨by rw [hR.out]; rfl, Gr.tr HG0.out HV5.out⟩
    | true =>
      go_wp2_with fail
      refine (HLV.out _).mono ?_
      rintro e_ w6 ⟨rfl, hb6⟩
      clear c0 c1 c2 c3 c4 c5 c6 c7 cl r0 r1 rl t0 t1 t2 t3 t4 t5 t6 t7 t8 tl
      have HV6 := Lib.hid (Gr.tr HV5.out hb6)
      have HB6 := Lib.hid (HB5.out.grow hb6)
      have HR6 := Lib.hid (HR5.out.grow hb6)
      have HT6 := Lib.hid (HT5.out.grow hb6)
      clear hb6 HB5 HR5 HT5 HV5
      have c0 := HB6.out.cell (i := 0) rfl
      have c1 := HB6.out.cell (i := 1) rfl
      have c2 := HB6.out.cell (i := 2) rfl
      have c3 := HB6.out.cell (i := 3) rfl
      have c4 := HB6.out.cell (i := 4) rfl
      have c5 := HB6.out.cell (i := 5) rfl
      have c6 := HB6.out.cell (i := 6) rfl
      have c7 := HB6.out.cell (i := 7) rfl
      have cl := HB6.out.lt
      have r0 := HR6.out.cell (i := 0) rfl
      have r1 := HR6.out.cell (i := 1) rfl
      have rl := HR6.out.lt
      have t0 := HT6.out.cell (i := 0) rfl
      have t1 := HT6.out.cell (i := 1) rfl
      have t2 := HT6.out.cell (i := 2) rfl
      have t3 := HT6.out.cell (i := 3) rfl
      have t4 := HT6.out.cell (i := 4) rfl
      have t5 := HT6.out.cell (i := 5) rfl
      have t6 := HT6.out.cell (i := 6) rfl
      have t7 := HT6.out.cell (i := 7) rfl
      have t8 := HT6.out.cell (i := 8) rfl
      have tl := HT6.out.lt
      cases lv with
      | false =>
        go_wp2_with fail
        exact bodyPost_ret (v := .tuple #[.int .i64 1, .int .i64 0]) (by simp [results, Tryz.results93, go_sem]) rfl ⟨by rw [hR.out]; rfl, Gr.tr HG0.out HV6.out⟩
      | true =>
        go_wp2_with fail
        refine (HOF.out _).mono ?_
        rintro e_ w7 ⟨rfl, hb7⟩
        clear c0 c1 c2 c3 c4 c5 c6 c7 cl r0 r1 rl t0 t1 t2 t3 t4 t5 t6 t7 t8 tl
        have hga := Gr.tr hb7 (Gr.alloc w7 (Obj.cells #[.int .i64 (xa - xf), .int .i64 (xb - xe)] 23))
        have HV7 := Lib.hid (Gr.tr HV6.out hga)
        have HB7 := Lib.hid (HB6.out.grow hga)
        have HR7 := Lib.hid (HR6.out.grow hga)
        have HT7 := Lib.hid (HT6.out.grow hga)
        have HO7 := Lib.hid (Box.fresh w7 [.int .i64 (xa - xf), .int .i64 (xb - xe)] 23)
        clear hb7 hga HB6 HR6 HT6 HV6
        have c0 := HB7.out.cell (i := 0) rfl
        have c1 := HB7.out.cell (i := 1) rfl
        have c2 := HB7.out.cell (i := 2) rfl
        have c3 := HB7.out.cell (i := 3) rfl
        have c4 := HB7.out.cell (i := 4) rfl
        have c5 := HB7.out.cell (i := 5) rfl
        have c6 := HB7.out.cell (i := 6) rfl
        have c7 := HB7.out.cell (i := 7) rfl
        have cl := HB7.out.lt
        have r0 := HR7.out.cell (i := 0) rfl
        have r1 := HR7.out.cell (i := 1) rfl
        have rl := HR7.out.lt
        have u0 := HO7.out.cell (i := 0) rfl
        have u1 := HO7.out.cell (i := 1) rfl
        have ul := HO7.out.lt
        cases k1 with
        | true =>
          go_wp2_with fail
          exact bodyPost_ret (v := .tuple #[.int .i64 2, .int .i64 0]) (by simp [results, Tryz.results93, go_sem]) rfl ⟨by rw [hR.out]; rfl, Gr.tr HG0.out HV7.out⟩
        | false =>
          cases k2 with
          | true =>
            go_wp2_with fail
            exact bodyPost_ret (v := .tuple #[.int .i64 3, .int .i64 0]) (by simp [results, Tryz.results93, go_sem]) rfl ⟨by rw [hR.out]; rfl, Gr.tr HG0.out HV7.out⟩
          | false =>
            cases k3 with
            | true =>
              go_wp2_with fail
              exact bodyPost_ret (v := .tuple #[.int .i64 3, .int .i64 0]) (by simp [results, Tryz.results93, go_sem]) rfl ⟨by rw [hR.out]; rfl, Gr.tr HG0.out HV7.out⟩
            | false =>
              go_wp2_with fail
              exact bodyPost_ret (v := .tuple #[.int .i64 4, .int .i64 0]) (by simp [results, Tryz.results93, go_sem]) rfl ⟨by rw [hR.out]; rfl, Gr.tr HG0.out HV7.out⟩
theorem rwhy_ok {p : Pr} {sp : Option Addr} {cap : Nat} {n : Nat} {t : Th} {w : World} (hok : p.ok = true) (hp : p.pw.1 ≤ p.pw.2) (hn : p.l[n]? = some t) (hT : TsA p.l (.slice sp p.l.length cap) w) :
    Calls Tryz.prog 93 #[.agg #[.int .i64 p.fl, .int .i64 p.fh, .int .i64 p.bl, .int .i64 p.bh, .int .i64 p.ti, .int .i64 p.ne, .int .i64 p.fa, .slice sp p.l.length cap], .int .i64 n] w fun e' w' => e' = .returned (.tuple #[.int .i64 ((t.see p.ti p.ne p.fa).why p.pw.1 p.pw.2), .int .i64 0]) ∧ Below w.heap.size w w' := by
  have ht := List.mem_of_getElem? hn
  have hlt := (List.getElem?_eq_some_iff.1 hn).1
  have hb := p.bounds hok
  have hin := p.pw_in hok
  have hov := ovl_why hok ht hp
  have hcl := Pr.why_is hok hp ht
  simp only at hcl
  obtain ⟨ba, bb, -, bd, be, bf, -, bh⟩ := (hb.things t ht).1
  have bt : 0 ≤ p.ti ∧ p.ti ≤ 1000 := ⟨hb.ti0, hb.ti1⟩
  have bn : 0 ≤ p.ne ∧ p.ne ≤ 1073741824 := ⟨by have := hb.ne0; omega, by have := hb.ne1; have := hb.fa1; omega⟩
  have hne := hb.ne0
  have elo : (t.see p.ti p.ne p.fa).lo = t.a - t.f := rfl
  have ehi : (t.see p.ti p.ne p.fa).hi = t.b - t.e := rfl
  rw [elo, ehi] at hcl
  have hq0 : 0 ≤ p.pw.2 / p.ne := Int.ediv_nonneg (by omega) (by omega)
  have hnear : (2000 < imax 0 (t.a - t.f) ∨ p.pw.2 / p.ne < imax 0 (t.a - t.f)) ↔ (2000 < t.a - t.f ∨ p.pw.2 < (t.a - t.f) * p.ne) := by
    rw [Int.ediv_lt_iff_lt_mul (by omega)]
    unfold imax
    by_cases c : 0 < t.a - t.f
    · rw [if_pos c]
    · rw [if_neg c]
      have : (t.a - t.f) * p.ne ≤ 0 * p.ne := Int.mul_le_mul_of_nonneg_right (by omega) (by omega)
      omega
  rw [hnear] at hcl
  have hPT : Hid (∀ (v : Value) (w : World), Calls Tryz.prog 124 #[.agg #[.int .i64 p.fl, .int .i64 p.fh, .int .i64 p.bl, .int .i64 p.bh, .int .i64 p.ti, .int .i64 p.ne, .int .i64 p.fa, v], .agg #[.int .i64 t.a, .int .i64 t.b, .int .i64 t.c, .int .i64 t.d, .int .i64 t.e, .int .i64 t.f, .int .i64 t.g, .int .i64 t.h, .int .i64 t.z]] w fun e w' => e = .returned (.agg #[.int .i64 (rpw p.ti p.ne p.fa t).1, .int .i64 (rpw p.ti p.ne p.fa t).2]) ∧ Below w.heap.size w w') :=
    Lib.hid fun v w => rpow_any p.fl p.fh p.bl p.bh p.ti p.ne p.fa v t w (hb.things t ht).1 ⟨hb.ti0, hb.ti1⟩ ⟨by have := hb.ne0; omega, by have := hb.ne1; have := hb.fa1; omega⟩ ⟨by have := hb.ne0; have := hb.ne1; omega, hb.fa1⟩ ⟨by have := (hb.things t ht).2; have := hb.ne0; omega, by have := (hb.things t ht).2; have := hb.fa1; omega⟩
  have hopen : p.ropen true = (p.pw.1, p.pw.2, 0) := by rw [Pr.ropen_true]; unfold Pr.power; rw [if_pos hok, if_pos hp]
  have hT' := hT
  obtain ⟨-, h3 | ⟨tb, tof, cp, hsp, hbl, hcs⟩⟩ := hT'
  · rw [h3.1] at hlt; exact absurd hlt (Nat.not_lt_zero _)
  obtain ⟨rfl, -⟩ : sp = some ⟨tb, tof, none⟩ ∧ cap = cp := by simpa using hsp
  refine rwhy_core p tb tof p.l.length cap n t.a t.b t.c t.d t.e t.f t.g t.h t.z p.pw.1 p.pw.2 (rpw p.ti p.ne p.fa t).1 (rpw p.ti p.ne p.fa t).2 w hT (Lib.hid hcs) hbl (by have := hb.len; omega) hlt (Lib.hid hn) (Lib.hid hopen) hPT bd bh bt ba bb be bf bn _ _ _ _ _ hov rfl rfl rfl rfl _ ?_
  generalize (t.see p.ti p.ne p.fa).why p.pw.1 p.pw.2 = y at *
  rcases hcl with ⟨hy, -⟩ | ⟨hy, hr⟩ | ⟨hy, hr, hh⟩ | ⟨hy, hr, hh, hnr, -⟩ | ⟨hy, hr, hh, hnr, -⟩
  · subst hy; simp
  · have e : (decide (t.c ≤ t.h + p.ti) && decide (t.g ≤ t.d + p.ti)) = false := by simp; omega
    subst hy; simp [e]
  · have e : (decide (t.c ≤ t.h + p.ti) && decide (t.g ≤ t.d + p.ti)) = true := by simp; omega
    subst hy; simp only [e]; simp [hh]
  · have e : (decide (t.c ≤ t.h + p.ti) && decide (t.g ≤ t.d + p.ti)) = true := by simp; omega
    have e2 : decide (t.b - t.e < 0) = false := by simp; omega
    have e3 : (decide (2000 < t.a - t.f) || decide (p.pw.2 < (t.a - t.f) * p.ne)) = true := by simpa using hnr
    subst hy; simp only [e, e2, e3]; simp
  · have e : (decide (t.c ≤ t.h + p.ti) && decide (t.g ≤ t.d + p.ti)) = true := by simp; omega
    have e2 : decide (t.b - t.e < 0) = false := by simp; omega
    have e3 : (decide (2000 < t.a - t.f) || decide (p.pw.2 < (t.a - t.f) * p.ne)) = false := by
      simp only [Bool.or_eq_false_iff, decide_eq_false_iff_not]
      exact ⟨fun c => hnr (.inl c), fun c => hnr (.inr c)⟩
    subst hy; simp only [e, e2, e3]; simp
theorem rapart_ok (k : Cd) (u : Cu) (h : (⟨k, 0, u⟩ : Tm).ok) (s : Int) (hs : -8000 ≤ s ∧ s ≤ 8000) (w : World) :
    Calls Tryz.prog 61 #[.agg k.cs.toArray, .agg #[.int .i64 u.a, .int .i64 u.b, .int .i64 u.c, .int .i64 u.d], .int .i64 s] w fun e w' => e = .returned (.int .i64 ((⟨k, 0, u⟩ : Tm).dist s)) ∧ Below w.heap.size w w' := by
  have b1 := h.half
  have b2 := h.step
  have b3 := h.a
  have b4 := h.b
  have b5 := h.c
  have b6 := h.d
  dsimp only at b1 b2 b3 b4 b5 b6
  have hbc := h.bc
  unfold Tm.dist
  dsimp only at hbc ⊢
  obtain ⟨hb0, hb1⟩ := hbc
  obtain ⟨s0, s1⟩ := hs
  clear h
  have hl : k.cs.length = 17 := rfl
  have p8 : ∀ h : 8 < k.cs.length, k.cs[8] = .int .i64 k.half := fun _ => rfl
  have p9 : ∀ h : 9 < k.cs.length, k.cs[9] = .int .i64 k.step := fun _ => rfl
  go_enter Tryz.func61, Tryz.ntmps61
  go_wp2
  exact bodyPost_ret (v := .int .i64 (2 * k.half - k.step * (u.b + u.c) - s)) (by simp [results, Tryz.results61, go_sem]) rfl ⟨rfl, (Gr.alloc _ _).tr (Gr.alloc _ _)⟩
theorem rwindow_ok (k : Cd) (u : Cu) (h : (⟨k, 0, u⟩ : Tm).ok) (w : World) :
    Calls Tryz.prog 99 #[.agg k.cs.toArray, .agg #[.int .i64 u.a, .int .i64 u.b, .int .i64 u.c, .int .i64 u.d]] w fun e w' => e = .returned (.int .i64 ((⟨k, 0, u⟩ : Tm).win)) ∧ Below w.heap.size w w' := by
  have b1 := h.half
  have b2 := h.step
  have b3 := h.a
  have b4 := h.b
  have b5 := h.c
  have b6 := h.d
  dsimp only at b1 b2 b3 b4 b5 b6
  have hbc := h.win
  unfold Tm.win at *
  dsimp only at hbc ⊢
  obtain ⟨hb0, hb1⟩ := hbc
  clear h
  have hl : k.cs.length = 17 := rfl
  have p9 : ∀ h : 9 < k.cs.length, k.cs[9] = .int .i64 k.step := fun _ => rfl
  go_enter Tryz.func99, Tryz.ntmps99
  go_wp2
  exact bodyPost_ret (v := .int .i64 (k.step * (u.a - u.c))) (by simp [results, Tryz.results99, go_sem]) rfl ⟨rfl, (Gr.alloc _ _).tr (Gr.alloc _ _)⟩
theorem rhurt_core (k : Cd) (u : Cu) (xa xb xc xd xe xf xg xh xz D1 D2 wn : Int) (w : World) (b1 : 0 ≤ k.half ∧ k.half ≤ 4000) (b7 : 0 ≤ k.elo ∧ k.elo ≤ 10000) (b8 : 0 ≤ k.ehi ∧ k.ehi ≤ 10000) (b9 : 0 ≤ k.prism ∧ k.prism ≤ 10000) (b10 : 0 ≤ k.squeeze ∧ k.squeeze ≤ 10000) (b11 : 0 ≤ k.front ∧ k.front ≤ 10000) (b12 : 0 ≤ k.deep ∧ k.deep ≤ 10000)
    (d1 : -40000 ≤ D1 ∧ D1 ≤ 40000) (d2 : -40000 ≤ D2 ∧ D2 ≤ 40000) (d3 : -8000 ≤ wn ∧ wn ≤ 8000) (m1 : -8000 ≤ k.step * u.a ∧ k.step * u.a ≤ 8000) (m2 : -8000 ≤ k.step * u.b ∧ k.step * u.b ≤ 8000) (m3 : -8000 ≤ k.step * u.c ∧ k.step * u.c ≤ 8000) (m4 : -8000 ≤ k.step * u.d ∧ k.step * u.d ≤ 8000)
    (HO : Hid (∀ W : World, Calls Tryz.prog 60 #[.agg #[.int .i64 xa, .int .i64 xb, .int .i64 xc, .int .i64 xd, .int .i64 xe, .int .i64 xf, .int .i64 xg, .int .i64 xh, .int .i64 xz]] W fun e w' => e = .returned (.agg #[.int .i64 (xa - xf), .int .i64 (xb - xe)]) ∧ Below W.heap.size W w'))
    (HA1 : Hid (∀ W : World, Calls Tryz.prog 61 #[.agg k.cs.toArray, .agg #[.int .i64 u.a, .int .i64 u.b, .int .i64 u.c, .int .i64 u.d], .int .i64 (xb - xe)] W fun e w' => e = .returned (.int .i64 D1) ∧ Below W.heap.size W w'))
    (HA2 : Hid (∀ W : World, Calls Tryz.prog 61 #[.agg k.cs.toArray, .agg #[.int .i64 u.a, .int .i64 u.b, .int .i64 u.c, .int .i64 u.d], .int .i64 (xa - xf)] W fun e w' => e = .returned (.int .i64 D2) ∧ Below W.heap.size W w'))
    (HW : Hid (∀ W : World, Calls Tryz.prog 99 #[.agg k.cs.toArray, .agg #[.int .i64 u.a, .int .i64 u.b, .int .i64 u.c, .int .i64 u.d]] W fun e w' => e = .returned (.int .i64 wn) ∧ Below W.heap.size W w'))
    (g1 g2 g3 g4 l1 l2 l3 l4 : Bool) (h1 : decide (D1 < k.ehi - k.squeeze) = g1) (h2 : decide (k.elo + k.prism < D2) = g2) (h3 : decide (wn + k.front < xb - xe) = g3) (h4 : decide (xa - xf < wn - k.deep) = g4)
    (q1 : decide (-k.half + k.step * u.a ≤ xa) = l1) (q2 : decide (xb ≤ k.half - k.step * u.b) = l2) (q3 : decide (-k.half + k.step * u.c ≤ xe) = l3) (q4 : decide (xf ≤ k.half - k.step * u.d) = l4)
    (r : Int) (hr : r = if g1 = true then 1 else if g2 = true then 2 else if g3 = true then 3 else if g4 = true then 4 else if (l1 && l2 && (l3 && l4)) = true then 0 else 5) :
    Calls Tryz.prog 95 #[.agg k.cs.toArray, .agg #[.int .i64 u.a, .int .i64 u.b, .int .i64 u.c, .int .i64 u.d], .agg #[.int .i64 xa, .int .i64 xb, .int .i64 xc, .int .i64 xd, .int .i64 xe, .int .i64 xf, .int .i64 xg, .int .i64 xh, .int .i64 xz]] w fun e w' => e = .returned (.int .i64 r) ∧ Below w.heap.size w w' := by
  have hR := Lib.hid hr
  obtain ⟨b1, b1'⟩ := b1
  obtain ⟨b7, b7'⟩ := b7
  obtain ⟨b8, b8'⟩ := b8
  obtain ⟨b9, b9'⟩ := b9
  obtain ⟨b10, b10'⟩ := b10
  obtain ⟨b11, b11'⟩ := b11
  obtain ⟨b12, b12'⟩ := b12
  obtain ⟨d1, d1'⟩ := d1
  obtain ⟨d2, d2'⟩ := d2
  obtain ⟨d3, d3'⟩ := d3
  obtain ⟨m1, m1'⟩ := m1
  obtain ⟨m2, m2'⟩ := m2
  obtain ⟨m3, m3'⟩ := m3
  obtain ⟨m4, m4'⟩ := m4
  have HB0 := Lib.hid (show Box (((w.alloc (Obj.cells k.cs.toArray 28)).alloc (Obj.cells #[.int .i64 u.a, .int .i64 u.b, .int .i64 u.c, .int .i64 u.d] 30)).alloc (Obj.cells #[.int .i64 xa, .int .i64 xb, .int .i64 xc, .int .i64 xd, .int .i64 xe, .int .i64 xf, .int .i64 xg, .int .i64 xh, .int .i64 xz] 52)) w.heap.size k.cs 28 from (Box.fresh w k.cs 28).grow ((Gr.alloc _ _).tr (Gr.alloc _ _)))
  have HU0 := Lib.hid (show Box (((w.alloc (Obj.cells k.cs.toArray 28)).alloc (Obj.cells #[.int .i64 u.a, .int .i64 u.b, .int .i64 u.c, .int .i64 u.d] 30)).alloc (Obj.cells #[.int .i64 xa, .int .i64 xb, .int .i64 xc, .int .i64 xd, .int .i64 xe, .int .i64 xf, .int .i64 xg, .int .i64 xh, .int .i64 xz] 52)) (w.heap.size + 1) [.int .i64 u.a, .int .i64 u.b, .int .i64 u.c, .int .i64 u.d] 30 by simpa using (Box.fresh (w.alloc (Obj.cells k.cs.toArray 28)) [.int .i64 u.a, .int .i64 u.b, .int .i64 u.c, .int .i64 u.d] 30).grow (Gr.alloc _ (Obj.cells #[.int .i64 xa, .int .i64 xb, .int .i64 xc, .int .i64 xd, .int .i64 xe, .int .i64 xf, .int .i64 xg, .int .i64 xh, .int .i64 xz] 52)))
  have HX0 := Lib.hid (show Box (((w.alloc (Obj.cells k.cs.toArray 28)).alloc (Obj.cells #[.int .i64 u.a, .int .i64 u.b, .int .i64 u.c, .int .i64 u.d] 30)).alloc (Obj.cells #[.int .i64 xa, .int .i64 xb, .int .i64 xc, .int .i64 xd, .int .i64 xe, .int .i64 xf, .int .i64 xg, .int .i64 xh, .int .i64 xz] 52)) (w.heap.size + 1 + 1) [.int .i64 xa, .int .i64 xb, .int .i64 xc, .int .i64 xd, .int .i64 xe, .int .i64 xf, .int .i64 xg, .int .i64 xh, .int .i64 xz] 52 by simpa using Box.fresh ((w.alloc (Obj.cells k.cs.toArray 28)).alloc (Obj.cells #[.int .i64 u.a, .int .i64 u.b, .int .i64 u.c, .int .i64 u.d] 30)) [.int .i64 xa, .int .i64 xb, .int .i64 xc, .int .i64 xd, .int .i64 xe, .int .i64 xf, .int .i64 xg, .int .i64 xh, .int .i64 xz] 52)
  have HG0 := Lib.hid (show Gr w (((w.alloc (Obj.cells k.cs.toArray 28)).alloc (Obj.cells #[.int .i64 u.a, .int .i64 u.b, .int .i64 u.c, .int .i64 u.d] 30)).alloc (Obj.cells #[.int .i64 xa, .int .i64 xb, .int .i64 xc, .int .i64 xd, .int .i64 xe, .int .i64 xf, .int .i64 xg, .int .i64 xh, .int .i64 xz] 52)) from ((Gr.alloc _ _).tr (Gr.alloc _ _)).tr (Gr.alloc _ _))
  have hl : k.cs.length = 17 := rfl
  clear hr
  go_enter Tryz.func95, Tryz.ntmps95
  go_wp2_with fail
  refine (HO.out _).mono ?_
  rintro e w1 ⟨rfl, hb1⟩
  have hga := Gr.tr hb1 (Gr.alloc w1 (Obj.cells #[.int .i64 (xa - xf), .int .i64 (xb - xe)] 23))
  have HG1 := Lib.hid (HG0.out.tr hga)
  have HB1 := Lib.hid (HB0.out.grow hga)
  have HU1 := Lib.hid (HU0.out.grow hga)
  have HX1 := Lib.hid (HX0.out.grow hga)
  have HS1 := Lib.hid (Box.fresh w1 [.int .i64 (xa - xf), .int .i64 (xb - xe)] 23)
  clear hb1 hga HB0 HU0 HX0 HG0 hl
  go_upto_region 2 with fail
  generalize (w1.alloc (Obj.cells #[.int .i64 (xa - xf), .int .i64 (xb - xe)] 23)) = W1 at *
  generalize w1.heap.size = bs at *
  have c8 := HB1.out.cell (i := 8) rfl
  have c9 := HB1.out.cell (i := 9) rfl
  have c11 := HB1.out.cell (i := 11) rfl
  have c12 := HB1.out.cell (i := 12) rfl
  have c13 := HB1.out.cell (i := 13) rfl
  have c14 := HB1.out.cell (i := 14) rfl
  have c15 := HB1.out.cell (i := 15) rfl
  have c16 := HB1.out.cell (i := 16) rfl
  have cl := HB1.out.lt
  have uq0 := HU1.out.cell (i := 0) rfl
  have uq1 := HU1.out.cell (i := 1) rfl
  have uq2 := HU1.out.cell (i := 2) rfl
  have uq3 := HU1.out.cell (i := 3) rfl
  have uql := HU1.out.lt
  have xq0 := HX1.out.cell (i := 0) rfl
  have xq1 := HX1.out.cell (i := 1) rfl
  have xq2 := HX1.out.cell (i := 2) rfl
  have xq3 := HX1.out.cell (i := 3) rfl
  have xq4 := HX1.out.cell (i := 4) rfl
  have xq5 := HX1.out.cell (i := 5) rfl
  have xq6 := HX1.out.cell (i := 6) rfl
  have xq7 := HX1.out.cell (i := 7) rfl
  have xq8 := HX1.out.cell (i := 8) rfl
  have xql := HX1.out.lt
  have s0 := HS1.out.cell (i := 0) rfl
  have s1 := HS1.out.cell (i := 1) rfl
  have sl := HS1.out.lt
  refine region2 11 ?_ ?_ ?_
  · kernel_rfl
  · kernel_rfl
  simp only [List.take_succ_cons, List.take_zero, List.drop_succ_cons, List.drop_zero]
  apply ceq (D := [(3, none)]) rfl (by kernel_rfl)
  · intro ρ W ⟨p1,p2,p3⟩ hG hF K hK; (try simp [FD] at hF); rw [xlb row28 rfl (HB1.out.grow (Gr.tr (Gr.drew _) hG)) rfl hF]; exact hK _ gv
  apply ceq (D := [(4, none)]) rfl (by kernel_rfl)
  · intro ρ W ⟨p1,p2,p3⟩ hG hF K hK; (try simp [FD] at hF); have ⟨hc, hf, hz⟩ := bdr hG; go_simp; exact hK _ gv
  apply ceq (D := [(7, none)]) rfl (by kernel_rfl)
  · intro ρ W ⟨p1,p2,p3⟩ hG hF K hK; (try simp [FD] at hF); have ⟨hc, hf, hz⟩ := bdr hG; go_simp; exact hK _ gv
  apply ceq (D := [(14, some 0)]) rfl (by kernel_rfl)
  · intro ρ W ⟨p1,p2,p3⟩ hG hF K hK; (try simp [FD] at hF); have ⟨hc, hf, hz⟩ := bdr hG; go_simp; exact hK _ gv
  apply ceq (D := [(12, some 3), (13, some 2), (15, some 0)]) rfl (by kernel_rfl)
  · intro ρ W ⟨p1,p2,p3⟩ hG hF K hK; (try simp [FD] at hF); have ⟨hc, hf, hz⟩ := bdr hG; go_simp; exact hK _ (gc (HA1.out _))
  apply ceq (D := [(3, none)]) rfl (by kernel_rfl)
  · intro ρ W ⟨p1,p2,p3⟩ hG hF K hK; (try simp [FD] at hF); have ⟨hc, hf, hz⟩ := bdr hG; go_simp; exact hK _ gv
  apply ceq (D := [(17, some 0)]) rfl (by kernel_rfl)
  · intro ρ W ⟨p1,p2,p3⟩ hG hF K hK; (try simp [FD] at hF); have ⟨hc, hf, hz⟩ := bdr hG; go_simp; exact hK _ gv
  apply ceq (D := [(18, some 0)]) rfl (by kernel_rfl)
  · intro ρ W ⟨p1,p2,p3⟩ hG hF K hK; (try simp [FD] at hF); have ⟨hc, hf, hz⟩ := bdr hG; go_simp; exact hK _ gv
  apply ceq (D := [(3, none)]) rfl (by kernel_rfl)
  · intro ρ W ⟨p1,p2,p3⟩ hG hF K hK; (try simp [FD] at hF); have ⟨hc, hf, hz⟩ := bdr hG; go_simp; exact hK _ gv
  apply ceq (D := [(20, some 0)]) rfl (by kernel_rfl)
  · intro ρ W ⟨p1,p2,p3⟩ hG hF K hK; (try simp [FD] at hF); have ⟨hc, hf, hz⟩ := bdr hG; go_simp; exact hK _ gv
  apply ceq (D := [(19, some 2), (21, some 0)]) rfl (by kernel_rfl)
  · intro ρ W ⟨p1,p2,p3⟩ hG hF K hK; (try simp [FD] at hF); have ⟨hc, hf, hz⟩ := bdr hG; go_simp; exact hK _ gv
  refine cdn ?_
  intro vs W hG hV
  obtain ⟨e10, -, -, -, -, -, e4, -⟩ := hV
  simp only [Nat.reduceSub] at e4 e10
  simp only [lay, Act.put, List.getElem?_toArray, List.getElem?_cons_succ, List.getElem?_cons_zero, Option.bind_some, List.setIfInBounds_toArray, List.set_cons_succ, List.set_cons_zero]
  generalize vs 0 = v0, vs 1 = v1, vs 2 = v2, vs 3 = v3
  generalize vs 4 = v4 at *
  generalize vs 5 = v5, vs 6 = v6, vs 7 = v7, vs 8 = v8, vs 9 = v9
  generalize vs 10 = v10 at *
  subst e4
  subst e10
  obtain ⟨hc, hf, hz⟩ := bcell hG
  clear c8 c9 c11 c12 c13 c14 c15 c16 cl
  clear uq0 uq1 uq2 uq3 uql
  clear xq0 xq1 xq2 xq3 xq4 xq5 xq6 xq7 xq8 xql
  clear s0 s1 sl
  have HG2 := Lib.hid (Gr.tr HG1.out hG)
  have HB2 := Lib.hid (HB1.out.grow hG)
  have HU2 := Lib.hid (HU1.out.grow hG)
  have HX2 := Lib.hid (HX1.out.grow hG)
  have HS2 := Lib.hid (HS1.out.grow hG)
  clear hc hf hz hG HB1 HU1 HX1 HS1
  have c8 := HB2.out.cell (i := 8) rfl
  have c9 := HB2.out.cell (i := 9) rfl
  have c11 := HB2.out.cell (i := 11) rfl
  have c12 := HB2.out.cell (i := 12) rfl
  have c13 := HB2.out.cell (i := 13) rfl
  have c14 := HB2.out.cell (i := 14) rfl
  have c15 := HB2.out.cell (i := 15) rfl
  have c16 := HB2.out.cell (i := 16) rfl
  have cl := HB2.out.lt
  have uq0 := HU2.out.cell (i := 0) rfl
  have uq1 := HU2.out.cell (i := 1) rfl
  have uq2 := HU2.out.cell (i := 2) rfl
  have uq3 := HU2.out.cell (i := 3) rfl
  have uql := HU2.out.lt
  have xq0 := HX2.out.cell (i := 0) rfl
  have xq1 := HX2.out.cell (i := 1) rfl
  have xq2 := HX2.out.cell (i := 2) rfl
  have xq3 := HX2.out.cell (i := 3) rfl
  have xq4 := HX2.out.cell (i := 4) rfl
  have xq5 := HX2.out.cell (i := 5) rfl
  have xq6 := HX2.out.cell (i := 6) rfl
  have xq7 := HX2.out.cell (i := 7) rfl
  have xq8 := HX2.out.cell (i := 8) rfl
  have xql := HX2.out.lt
  have s0 := HS2.out.cell (i := 0) rfl
  have s1 := HS2.out.cell (i := 1) rfl
  have sl := HS2.out.lt
  cases g1 with
  | true =>
    have hg1 := of_decide_eq_true h1
    go_wp2_with fail
    exact bodyPost_ret (v := .int .i64 1) (by simp [results, Tryz.results95, go_sem]) rfl ⟨by rw [hR.out]; rfl, HG2.out⟩
  | false =>
    have hg1 := of_decide_eq_false h1
    go_upto_region 4 with fail
    clear c8 c9 c11 c12 c13 c14 c15 c16 cl
    clear uq0 uq1 uq2 uq3 uql
    clear xq0 xq1 xq2 xq3 xq4 xq5 xq6 xq7 xq8 xql
    clear s0 s1 sl
    have c8 := HB2.out.cell (i := 8) rfl
    have c9 := HB2.out.cell (i := 9) rfl
    have c11 := HB2.out.cell (i := 11) rfl
    have c12 := HB2.out.cell (i := 12) rfl
    have c13 := HB2.out.cell (i := 13) rfl
    have c14 := HB2.out.cell (i := 14) rfl
    have c15 := HB2.out.cell (i := 15) rfl
    have c16 := HB2.out.cell (i := 16) rfl
    have cl := HB2.out.lt
    have uq0 := HU2.out.cell (i := 0) rfl
    have uq1 := HU2.out.cell (i := 1) rfl
    have uq2 := HU2.out.cell (i := 2) rfl
    have uq3 := HU2.out.cell (i := 3) rfl
    have uql := HU2.out.lt
    have xq0 := HX2.out.cell (i := 0) rfl
    have xq1 := HX2.out.cell (i := 1) rfl
    have xq2 := HX2.out.cell (i := 2) rfl
    have xq3 := HX2.out.cell (i := 3) rfl
    have xq4 := HX2.out.cell (i := 4) rfl
    have xq5 := HX2.out.cell (i := 5) rfl
    have xq6 := HX2.out.cell (i := 6) rfl
    have xq7 := HX2.out.cell (i := 7) rfl
    have xq8 := HX2.out.cell (i := 8) rfl
    have xql := HX2.out.lt
    have s0 := HS2.out.cell (i := 0) rfl
    have s1 := HS2.out.cell (i := 1) rfl
    have sl := HS2.out.lt
    refine region2 11 ?_ ?_ ?_
    · kernel_rfl
    · kernel_rfl
    simp only [List.take_succ_cons, List.take_zero, List.drop_succ_cons, List.drop_zero]
    apply ceq (D := [(3, none)]) rfl (by kernel_rfl)
    · intro ρ W ⟨p1,p2,p3⟩ hG hF K hK; (try simp [FD] at hF); rw [xlb row28 rfl (HB2.out.grow (Gr.tr (Gr.drew _) hG)) rfl hF]; exact hK _ gv
    apply ceq (D := [(4, none)]) rfl (by kernel_rfl)
    · intro ρ W ⟨p1,p2,p3⟩ hG hF K hK; (try simp [FD] at hF); have ⟨hc, hf, hz⟩ := bdr hG; go_simp; exact hK _ gv
    apply ceq (D := [(7, none)]) rfl (by kernel_rfl)
    · intro ρ W ⟨p1,p2,p3⟩ hG hF K hK; (try simp [FD] at hF); have ⟨hc, hf, hz⟩ := bdr hG; go_simp; exact hK _ gv
    apply ceq (D := [(26, some 0)]) rfl (by kernel_rfl)
    · intro ρ W ⟨p1,p2,p3⟩ hG hF K hK; (try simp [FD] at hF); have ⟨hc, hf, hz⟩ := bdr hG; go_simp; exact hK _ gv
    apply ceq (D := [(24, some 3), (25, some 2), (27, some 0)]) rfl (by kernel_rfl)
    · intro ρ W ⟨p1,p2,p3⟩ hG hF K hK; (try simp [FD] at hF); have ⟨hc, hf, hz⟩ := bdr hG; go_simp; exact hK _ (gc (HA2.out _))
    apply ceq (D := [(3, none)]) rfl (by kernel_rfl)
    · intro ρ W ⟨p1,p2,p3⟩ hG hF K hK; (try simp [FD] at hF); have ⟨hc, hf, hz⟩ := bdr hG; go_simp; exact hK _ gv
    apply ceq (D := [(29, some 0)]) rfl (by kernel_rfl)
    · intro ρ W ⟨p1,p2,p3⟩ hG hF K hK; (try simp [FD] at hF); have ⟨hc, hf, hz⟩ := bdr hG; go_simp; exact hK _ gv
    apply ceq (D := [(30, some 0)]) rfl (by kernel_rfl)
    · intro ρ W ⟨p1,p2,p3⟩ hG hF K hK; (try simp [FD] at hF); have ⟨hc, hf, hz⟩ := bdr hG; go_simp; exact hK _ gv
    apply ceq (D := [(3, none)]) rfl (by kernel_rfl)
    · intro ρ W ⟨p1,p2,p3⟩ hG hF K hK; (try simp [FD] at hF); have ⟨hc, hf, hz⟩ := bdr hG; go_simp; exact hK _ gv
    apply ceq (D := [(32, some 0)]) rfl (by kernel_rfl)
    · intro ρ W ⟨p1,p2,p3⟩ hG hF K hK; (try simp [FD] at hF); have ⟨hc, hf, hz⟩ := bdr hG; go_simp; exact hK _ gv
    apply ceq (D := [(31, some 2), (33, some 0)]) rfl (by kernel_rfl)
    · intro ρ W ⟨p1,p2,p3⟩ hG hF K hK; (try simp [FD] at hF); have ⟨hc, hf, hz⟩ := bdr hG; go_simp; exact hK _ gv
    refine cdn ?_
    intro vs W hG hV
    obtain ⟨e10, -, -, -, -, -, e4, -⟩ := hV
    simp only [Nat.reduceSub] at e4 e10
    simp only [lay, Act.put, List.getElem?_toArray, List.getElem?_cons_succ, List.getElem?_cons_zero, Option.bind_some, List.setIfInBounds_toArray, List.set_cons_succ, List.set_cons_zero]
    generalize vs 0 = v0, vs 1 = v1, vs 2 = v2, vs 3 = v3
    generalize vs 4 = v4 at *
    generalize vs 5 = v5, vs 6 = v6, vs 7 = v7, vs 8 = v8, vs 9 = v9
    generalize vs 10 = v10 at *
    subst e4
    subst e10
    obtain ⟨hc, hf, hz⟩ := bcell hG
    clear c8 c9 c11 c12 c13 c14 c15 c16 cl
    clear uq0 uq1 uq2 uq3 uql
    clear xq0 xq1 xq2 xq3 xq4 xq5 xq6 xq7 xq8 xql
    clear s0 s1 sl
    have HG3 := Lib.hid (Gr.tr HG2.out hG)
    have HB3 := Lib.hid (HB2.out.grow hG)
    have HU3 := Lib.hid (HU2.out.grow hG)
    have HX3 := Lib.hid (HX2.out.grow hG)
    have HS3 := Lib.hid (HS2.out.grow hG)
    clear hc hf hz hG HB2 HU2 HX2 HS2
    have c8 := HB3.out.cell (i := 8) rfl
    have c9 := HB3.out.cell (i := 9) rfl
    have c11 := HB3.out.cell (i := 11) rfl
    have c12 := HB3.out.cell (i := 12) rfl
    have c13 := HB3.out.cell (i := 13) rfl
    have c14 := HB3.out.cell (i := 14) rfl
    have c15 := HB3.out.cell (i := 15) rfl
    have c16 := HB3.out.cell (i := 16) rfl
    have cl := HB3.out.lt
    have uq0 := HU3.out.cell (i := 0) rfl
    have uq1 := HU3.out.cell (i := 1) rfl
    have uq2 := HU3.out.cell (i := 2) rfl
    have uq3 := HU3.out.cell (i := 3) rfl
    have uql := HU3.out.lt
    have xq0 := HX3.out.cell (i := 0) rfl
    have xq1 := HX3.out.cell (i := 1) rfl
    have xq2 := HX3.out.cell (i := 2) rfl
    have xq3 := HX3.out.cell (i := 3) rfl
    have xq4 := HX3.out.cell (i := 4) rfl
    have xq5 := HX3.out.cell (i := 5) rfl
    have xq6 := HX3.out.cell (i := 6) rfl
    have xq7 := HX3.out.cell (i := 7) rfl
    have xq8 := HX3.out.cell (i := 8) rfl
    have xql := HX3.out.lt
    have s0 := HS3.out.cell (i := 0) rfl
    have s1 := HS3.out.cell (i := 1) rfl
    have sl := HS3.out.lt
    cases g2 with
    | true =>
      have hg2 := of_decide_eq_true h2
      go_wp2_with fail
      exact bodyPost_ret (v := .int .i64 2) (by simp [results, Tryz.results95, go_sem]) rfl ⟨by rw [hR.out]; rfl, HG3.out⟩
    | false =>
      have hg2 := of_decide_eq_false h2
      go_upto_region 6 with fail
      clear c8 c9 c11 c12 c13 c14 c15 c16 cl
      clear uq0 uq1 uq2 uq3 uql
      clear xq0 xq1 xq2 xq3 xq4 xq5 xq6 xq7 xq8 xql
      clear s0 s1 sl
      have c8 := HB3.out.cell (i := 8) rfl
      have c9 := HB3.out.cell (i := 9) rfl
      have c11 := HB3.out.cell (i := 11) rfl
      have c12 := HB3.out.cell (i := 12) rfl
      have c13 := HB3.out.cell (i := 13) rfl
      have c14 := HB3.out.cell (i := 14) rfl
      have c15 := HB3.out.cell (i := 15) rfl
      have c16 := HB3.out.cell (i := 16) rfl
      have cl := HB3.out.lt
      have uq0 := HU3.out.cell (i := 0) rfl
      have uq1 := HU3.out.cell (i := 1) rfl
      have uq2 := HU3.out.cell (i := 2) rfl
      have uq3 := HU3.out.cell (i := 3) rfl
      have uql := HU3.out.lt
      have xq0 := HX3.out.cell (i := 0) rfl
      have xq1 := HX3.out.cell (i := 1) rfl
      have xq2 := HX3.out.cell (i := 2) rfl
      have xq3 := HX3.out.cell (i := 3) rfl
      have xq4 := HX3.out.cell (i := 4) rfl
      have xq5 := HX3.out.cell (i := 5) rfl
      have xq6 := HX3.out.cell (i := 6) rfl
      have xq7 := HX3.out.cell (i := 7) rfl
      have xq8 := HX3.out.cell (i := 8) rfl
      have xql := HX3.out.lt
      have s0 := HS3.out.cell (i := 0) rfl
      have s1 := HS3.out.cell (i := 1) rfl
      have sl := HS3.out.lt
      refine region2 8 ?_ ?_ ?_
      · kernel_rfl
      · kernel_rfl
      simp only [List.take_succ_cons, List.take_zero, List.drop_succ_cons, List.drop_zero]
      apply ceq (D := [(7, none)]) rfl (by kernel_rfl)
      · intro ρ W ⟨p1,p2,p3⟩ hG hF K hK; (try simp [FD] at hF); have ⟨hc, hf, hz⟩ := bdr hG; go_simp; exact hK _ gv
      apply ceq (D := [(36, some 0)]) rfl (by kernel_rfl)
      · intro ρ W ⟨p1,p2,p3⟩ hG hF K hK; (try simp [FD] at hF); have ⟨hc, hf, hz⟩ := bdr hG; go_simp; exact hK _ gv
      apply ceq (D := [(3, none)]) rfl (by kernel_rfl)
      · intro ρ W ⟨p1,p2,p3⟩ hG hF K hK; (try simp [FD] at hF); rw [xlb row28 rfl (HB3.out.grow (Gr.tr (Gr.drew _) hG)) rfl hF]; exact hK _ gv
      apply ceq (D := [(4, none)]) rfl (by kernel_rfl)
      · intro ρ W ⟨p1,p2,p3⟩ hG hF K hK; (try simp [FD] at hF); have ⟨hc, hf, hz⟩ := bdr hG; go_simp; exact hK _ gv
      apply ceq (D := [(38, some 1), (39, some 0)]) rfl (by kernel_rfl)
      · intro ρ W ⟨p1,p2,p3⟩ hG hF K hK; (try simp [FD] at hF); have ⟨hc, hf, hz⟩ := bdr hG; go_simp; exact hK _ (gc (HW.out _))
      apply ceq (D := [(3, none)]) rfl (by kernel_rfl)
      · intro ρ W ⟨p1,p2,p3⟩ hG hF K hK; (try simp [FD] at hF); have ⟨hc, hf, hz⟩ := bdr hG; go_simp; exact hK _ gv
      apply ceq (D := [(41, some 0)]) rfl (by kernel_rfl)
      · intro ρ W ⟨p1,p2,p3⟩ hG hF K hK; (try simp [FD] at hF); have ⟨hc, hf, hz⟩ := bdr hG; go_simp; exact hK _ gv
      apply ceq (D := [(40, some 2), (42, some 0)]) rfl (by kernel_rfl)
      · intro ρ W ⟨p1,p2,p3⟩ hG hF K hK; (try simp [FD] at hF); have ⟨hc, hf, hz⟩ := bdr hG; go_simp; exact hK _ gv
      refine cdn ?_
      intro vs W hG hV
      obtain ⟨e7, -, -, -, -, -, e1, -⟩ := hV
      simp only [Nat.reduceSub] at e1 e7
      simp only [lay, Act.put, List.getElem?_toArray, List.getElem?_cons_succ, List.getElem?_cons_zero, Option.bind_some, List.setIfInBounds_toArray, List.set_cons_succ, List.set_cons_zero]
      generalize vs 0 = v0
      generalize vs 1 = v1 at *
      generalize vs 2 = v2, vs 3 = v3, vs 4 = v4, vs 5 = v5, vs 6 = v6
      generalize vs 7 = v7 at *
      subst e1
      subst e7
      obtain ⟨hc, hf, hz⟩ := bcell hG
      clear c8 c9 c11 c12 c13 c14 c15 c16 cl
      clear uq0 uq1 uq2 uq3 uql
      clear xq0 xq1 xq2 xq3 xq4 xq5 xq6 xq7 xq8 xql
      clear s0 s1 sl
      have HG4 := Lib.hid (Gr.tr HG3.out hG)
      have HB4 := Lib.hid (HB3.out.grow hG)
      have HU4 := Lib.hid (HU3.out.grow hG)
      have HX4 := Lib.hid (HX3.out.grow hG)
      have HS4 := Lib.hid (HS3.out.grow hG)
      clear hc hf hz hG HB3 HU3 HX3 HS3
      have c8 := HB4.out.cell (i := 8) rfl
      have c9 := HB4.out.cell (i := 9) rfl
      have c11 := HB4.out.cell (i := 11) rfl
      have c12 := HB4.out.cell (i := 12) rfl
      have c13 := HB4.out.cell (i := 13) rfl
      have c14 := HB4.out.cell (i := 14) rfl
      have c15 := HB4.out.cell (i := 15) rfl
      have c16 := HB4.out.cell (i := 16) rfl
      have cl := HB4.out.lt
      have uq0 := HU4.out.cell (i := 0) rfl
      have uq1 := HU4.out.cell (i := 1) rfl
      have uq2 := HU4.out.cell (i := 2) rfl
      have uq3 := HU4.out.cell (i := 3) rfl
      have uql := HU4.out.lt
      have xq0 := HX4.out.cell (i := 0) rfl
      have xq1 := HX4.out.cell (i := 1) rfl
      have xq2 := HX4.out.cell (i := 2) rfl
      have xq3 := HX4.out.cell (i := 3) rfl
      have xq4 := HX4.out.cell (i := 4) rfl
      have xq5 := HX4.out.cell (i := 5) rfl
      have xq6 := HX4.out.cell (i := 6) rfl
      have xq7 := HX4.out.cell (i := 7) rfl
      have xq8 := HX4.out.cell (i := 8) rfl
      have xql := HX4.out.lt
      have s0 := HS4.out.cell (i := 0) rfl
      have s1 := HS4.out.cell (i := 1) rfl
      have sl := HS4.out.lt
      cases g3 with
      | true =>
        have hg3 := of_decide_eq_true h3
        go_wp2_with fail
        exact bodyPost_ret (v := .int .i64 3) (by simp [results, Tryz.results95, go_sem]) rfl ⟨by rw [hR.out]; rfl, HG4.out⟩
      | false =>
        have hg3 := of_decide_eq_false h3
        go_upto_region 8 with fail
        clear c8 c9 c11 c12 c13 c14 c15 c16 cl
        clear uq0 uq1 uq2 uq3 uql
        clear xq0 xq1 xq2 xq3 xq4 xq5 xq6 xq7 xq8 xql
        clear s0 s1 sl
        have c8 := HB4.out.cell (i := 8) rfl
        have c9 := HB4.out.cell (i := 9) rfl
        have c11 := HB4.out.cell (i := 11) rfl
        have c12 := HB4.out.cell (i := 12) rfl
        have c13 := HB4.out.cell (i := 13) rfl
        have c14 := HB4.out.cell (i := 14) rfl
        have c15 := HB4.out.cell (i := 15) rfl
        have c16 := HB4.out.cell (i := 16) rfl
        have cl := HB4.out.lt
        have uq0 := HU4.out.cell (i := 0) rfl
        have uq1 := HU4.out.cell (i := 1) rfl
        have uq2 := HU4.out.cell (i := 2) rfl
        have uq3 := HU4.out.cell (i := 3) rfl
        have uql := HU4.out.lt
        have xq0 := HX4.out.cell (i := 0) rfl
        have xq1 := HX4.out.cell (i := 1) rfl
        have xq2 := HX4.out.cell (i := 2) rfl
        have xq3 := HX4.out.cell (i := 3) rfl
        have xq4 := HX4.out.cell (i := 4) rfl
        have xq5 := HX4.out.cell (i := 5) rfl
        have xq6 := HX4.out.cell (i := 6) rfl
        have xq7 := HX4.out.cell (i := 7) rfl
        have xq8 := HX4.out.cell (i := 8) rfl
        have xql := HX4.out.lt
        have s0 := HS4.out.cell (i := 0) rfl
        have s1 := HS4.out.cell (i := 1) rfl
        have sl := HS4.out.lt
        refine region2 8 ?_ ?_ ?_
        · kernel_rfl
        · kernel_rfl
        simp only [List.take_succ_cons, List.take_zero, List.drop_succ_cons, List.drop_zero]
        apply ceq (D := [(7, none)]) rfl (by kernel_rfl)
        · intro ρ W ⟨p1,p2,p3⟩ hG hF K hK; (try simp [FD] at hF); have ⟨hc, hf, hz⟩ := bdr hG; go_simp; exact hK _ gv
        apply ceq (D := [(45, some 0)]) rfl (by kernel_rfl)
        · intro ρ W ⟨p1,p2,p3⟩ hG hF K hK; (try simp [FD] at hF); have ⟨hc, hf, hz⟩ := bdr hG; go_simp; exact hK _ gv
        apply ceq (D := [(3, none)]) rfl (by kernel_rfl)
        · intro ρ W ⟨p1,p2,p3⟩ hG hF K hK; (try simp [FD] at hF); rw [xlb row28 rfl (HB4.out.grow (Gr.tr (Gr.drew _) hG)) rfl hF]; exact hK _ gv
        apply ceq (D := [(4, none)]) rfl (by kernel_rfl)
        · intro ρ W ⟨p1,p2,p3⟩ hG hF K hK; (try simp [FD] at hF); have ⟨hc, hf, hz⟩ := bdr hG; go_simp; exact hK _ gv
        apply ceq (D := [(47, some 1), (48, some 0)]) rfl (by kernel_rfl)
        · intro ρ W ⟨p1,p2,p3⟩ hG hF K hK; (try simp [FD] at hF); have ⟨hc, hf, hz⟩ := bdr hG; go_simp; exact hK _ (gc (HW.out _))
        apply ceq (D := [(3, none)]) rfl (by kernel_rfl)
        · intro ρ W ⟨p1,p2,p3⟩ hG hF K hK; (try simp [FD] at hF); have ⟨hc, hf, hz⟩ := bdr hG; go_simp; exact hK _ gv
        apply ceq (D := [(50, some 0)]) rfl (by kernel_rfl)
        · intro ρ W ⟨p1,p2,p3⟩ hG hF K hK; (try simp [FD] at hF); have ⟨hc, hf, hz⟩ := bdr hG; go_simp; exact hK _ gv
        apply ceq (D := [(49, some 2), (51, some 0)]) rfl (by kernel_rfl)
        · intro ρ W ⟨p1,p2,p3⟩ hG hF K hK; (try simp [FD] at hF); have ⟨hc, hf, hz⟩ := bdr hG; go_simp; exact hK _ gv
        refine cdn ?_
        intro vs W hG hV
        obtain ⟨e7, -, -, -, -, -, e1, -⟩ := hV
        simp only [Nat.reduceSub] at e1 e7
        simp only [lay, Act.put, List.getElem?_toArray, List.getElem?_cons_succ, List.getElem?_cons_zero, Option.bind_some, List.setIfInBounds_toArray, List.set_cons_succ, List.set_cons_zero]
        generalize vs 0 = v0
        generalize vs 1 = v1 at *
        generalize vs 2 = v2, vs 3 = v3, vs 4 = v4, vs 5 = v5, vs 6 = v6
        generalize vs 7 = v7 at *
        subst e1
        subst e7
        obtain ⟨hc, hf, hz⟩ := bcell hG
        clear c8 c9 c11 c12 c13 c14 c15 c16 cl
        clear uq0 uq1 uq2 uq3 uql
        clear xq0 xq1 xq2 xq3 xq4 xq5 xq6 xq7 xq8 xql
        clear s0 s1 sl
        have HG5 := Lib.hid (Gr.tr HG4.out hG)
        have HB5 := Lib.hid (HB4.out.grow hG)
        have HU5 := Lib.hid (HU4.out.grow hG)
        have HX5 := Lib.hid (HX4.out.grow hG)
        have HS5 := Lib.hid (HS4.out.grow hG)
        clear hc hf hz hG HB4 HU4 HX4 HS4
        have c8 := HB5.out.cell (i := 8) rfl
        have c9 := HB5.out.cell (i := 9) rfl
        have c11 := HB5.out.cell (i := 11) rfl
        have c12 := HB5.out.cell (i := 12) rfl
        have c13 := HB5.out.cell (i := 13) rfl
        have c14 := HB5.out.cell (i := 14) rfl
        have c15 := HB5.out.cell (i := 15) rfl
        have c16 := HB5.out.cell (i := 16) rfl
        have cl := HB5.out.lt
        have uq0 := HU5.out.cell (i := 0) rfl
        have uq1 := HU5.out.cell (i := 1) rfl
        have uq2 := HU5.out.cell (i := 2) rfl
        have uq3 := HU5.out.cell (i := 3) rfl
        have uql := HU5.out.lt
        have xq0 := HX5.out.cell (i := 0) rfl
        have xq1 := HX5.out.cell (i := 1) rfl
        have xq2 := HX5.out.cell (i := 2) rfl
        have xq3 := HX5.out.cell (i := 3) rfl
        have xq4 := HX5.out.cell (i := 4) rfl
        have xq5 := HX5.out.cell (i := 5) rfl
        have xq6 := HX5.out.cell (i := 6) rfl
        have xq7 := HX5.out.cell (i := 7) rfl
        have xq8 := HX5.out.cell (i := 8) rfl
        have xql := HX5.out.lt
        have s0 := HS5.out.cell (i := 0) rfl
        have s1 := HS5.out.cell (i := 1) rfl
        have sl := HS5.out.lt
        cases g4 with
        | true =>
          have hg4 := of_decide_eq_true h4
          go_wp2_with fail
          exact bodyPost_ret (v := .int .i64 4) (by simp [results, Tryz.results95, go_sem]) rfl ⟨by rw [hR.out]; rfl, HG5.out⟩
        | false =>
          have hg4 := of_decide_eq_false h4
          cases l1 <;> cases l2 <;> cases l3 <;> cases l4
          all_goals
            have e1 := q1
            have e2 := q2
            have e3 := q3
            have e4 := q4
            simp only [decide_eq_true_eq, decide_eq_false_iff_not] at e1 e2 e3 e4
            go_wp2_with fail
            first
            | exact bodyPost_ret (v := .int .i64 5) (by simp [results, Tryz.results95, go_sem]) rfl ⟨by rw [hR.out]; rfl, HG5.out⟩
            | exact bodyPost_ret (v := .int .i64 0) (by simp [results, Tryz.results95, go_sem]) rfl ⟨by rw [hR.out]; rfl, HG5.out⟩
theorem rhurt_ok (k : Cd) (u : Cu) (x : Th) (w : World) (h : (⟨k, 0, u⟩ : Tm).ok) (hx : x.ok) :
    Calls Tryz.prog 95 #[.agg k.cs.toArray, .agg #[.int .i64 u.a, .int .i64 u.b, .int .i64 u.c, .int .i64 u.d], x.val] w fun e w' => e = .returned (.int .i64 ((⟨k, 0, u⟩ : Tm).why ⟨x.a, x.b, x.e, x.f, x.a - x.f, x.b - x.e⟩)) ∧ Below w.heap.size w w' := by
  obtain ⟨⟨ba, ba'⟩, ⟨bb, bb'⟩, -, -, ⟨be, be'⟩, ⟨bf, bf'⟩, -, -⟩ := hx
  have s1 : -8000 ≤ x.b - x.e ∧ x.b - x.e ≤ 8000 := by omega
  have s2 : -8000 ≤ x.a - x.f ∧ x.a - x.f ≤ 8000 := by omega
  refine rhurt_core k u x.a x.b x.c x.d x.e x.f x.g x.h x.z ((⟨k, 0, u⟩ : Tm).dist (x.b - x.e)) ((⟨k, 0, u⟩ : Tm).dist (x.a - x.f)) (⟨k, 0, u⟩ : Tm).win w h.half h.elo h.ehi h.prism h.squeeze h.front h.deep (h.dist s1) (h.dist s2) h.win (step_mul h.step (by have := h.a; dsimp only at this; omega)) (step_mul h.step (by have := h.b; dsimp only at this; omega)) (step_mul h.step (by have := h.c; dsimp only at this; omega)) (step_mul h.step (by have := h.d; dsimp only at this; omega))
    (Lib.hid fun W => rof_any x.a x.b x.c x.d x.e x.f x.g x.h x.z W ⟨ba, ba'⟩ ⟨bb, bb'⟩ ⟨be, be'⟩ ⟨bf, bf'⟩) (Lib.hid fun W => rapart_ok k u h _ s1 W) (Lib.hid fun W => rapart_ok k u h _ s2 W) (Lib.hid fun W => rwindow_ok k u h W) _ _ _ _ _ _ _ _ rfl rfl rfl rfl rfl rfl rfl rfl _ ?_
  unfold Tm.why
  dsimp only
  have e : (decide (-k.half + k.step * u.a ≤ x.a) && decide (x.b ≤ k.half - k.step * u.b) && (decide (-k.half + k.step * u.c ≤ x.e) && decide (x.f ≤ k.half - k.step * u.d))) = true ↔ ¬ 0 < (⟨k, 0, u⟩ : Tm).over ⟨x.a, x.b, x.e, x.f, x.a - x.f, x.b - x.e⟩ := by
    unfold Tm.over
    dsimp only
    simp only [List.foldl_cons, List.foldl_nil, Bool.and_eq_true, decide_eq_true_eq]
    have hh : ∀ y z : Int, 0 < imax y z ↔ 0 < y ∨ 0 < z := fun y z => by unfold imax; split <;> omega
    rw [hh, hh, hh]
    omega
  simp only [decide_eq_true_eq]
  split
  · rfl
  · split
    · rfl
    · split
      · rfl
      · split
        · rfl
        · by_cases c : 0 < (⟨k, 0, u⟩ : Tm).over ⟨x.a, x.b, x.e, x.f, x.a - x.f, x.b - x.e⟩
          · rw [if_pos c, if_neg (fun g => (e.1 g) c)]
          · rw [if_neg c, if_pos (e.2 c)]
end Go.Proofs.YtcngaohfemdfjaaGreat
