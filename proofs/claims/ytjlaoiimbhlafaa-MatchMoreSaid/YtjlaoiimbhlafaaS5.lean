import Derived.Test.YtjlaoiimbhlafaaL1
import Derived.Deep.RegionHeld3
import Derived.Deep.DrawnRows
import Derived.Deep.CutBlock
import Derived.Deep.DeepCutAuto
import Derived.Laws.StructEq
set_option linter.unusedVariables false
set_option linter.unusedSimpArgs false
namespace Go.Proofs.Ytjlaoiimbhlafaa
open Go.RowKit Go.Shelf

open MW
attribute [local go_sem] Oper.semAt_some run_store_func
attribute [local go_sem ↓] Go.wp_at_zero Go.wp_at_succ
attribute [local go_sem] guard55 guard24 neq55 eql24 neq24
attribute [-go_sem] run_eql_struct run_neq_struct
def Code.snd1 : Code → Code
  | .seq _ b => b
  | c => c
set_option maxRecDepth 100000 in
set_option maxHeartbeats 8000000 in
theorem lmore_rest (r yA yB yC : Rr) (b7 b8 b9 : Nat) (w wb : World) (hok : r.ok = true) (hn : r.L.length ≠ 0) (hML : MksAt r.L r.lp wb) (hMR : MksAt r.R r.rp wb) (hB : Box wb w.heap.size r.cs 26) (h7 : Box wb b7 yA.cs 26) (h8 : Box wb b8 yB.cs 26) (h9 : Box wb b9 yC.cs 26) (hG : Gr w wb)
    (hY : ∀ y, y = yA ∨ y = yB ∨ y = yC → y.Nw r ∧ y.ok = true ∧ MksAt y.L y.lp wb ∧ MksAt y.R y.rp wb) {s0 s1 s2 s4 s5 s6 s10 s11 s12 s13 s14 s15 s16 s17 s18 s19 s20 s21 s22 s23 s24 s25 s26 s27 s28 s29 s30 s31 s32 s33 s34 s35 s36 s37 s38 s39 s40 s41 s42 s43 s44 s45 s46 s47 s48 s49 s50 s51 s52 s53 s54 s55 s56 s57 s58 s59 s60 s61 s62 s63 s64 s65 s66 s67 s68 s69 s70 s71 s72 s73 s74 s75 s76 s77 s78 s79 s80 s81 s82 s83 s84 s85 s86 s87 s88 s89 s90 s91 s92 s93 s94 s95 s96 s97 s98 s99 s100 s101 s102 s103 s104 s105 s106 s107 s108 s109 s110 s111 s112 s113 s114 s115 s116 s117 s118 s119 s120 s121 s122 s123 s124 s125 s126 s127 s128 s129 s130 s131 s132 s133 s134 s135 s136 s137 s138 s139 s140 s141 s142 s143 s144 s145 s146 s147 s148 s149 s150 s151 s152 s153 s154 s155 s156 s157 s158 s159 s160 s161 s162 s163 s164 s165 s166 s167 s168 s169 s170 s171 s172 s173 s174 s175 s176 s177 s178 s179 s180 s181 s182 s183 s184 s185 s186 s187 s188 s189 s190 s191 s192 s193 s194 s195 s196 s197 s198 s199 s200 s201 s202 s203 s204 s205 s206 s207 s208 s209 s210 s211 s212 s213 s214 s215 s216 s217 s218 s219 s220 s221 s222 s223 s224 s225 s226 s227 s228 s229 s230 s231 s232 s233 s234 s235 s236 s237 s238 : Value} :
    (Code.snd1 (Code.snd1 (Code.snd1 (Code.snd1 (Code.snd1 (Code.snd1 (Code.snd1 (Code.snd1 (Try.f11.body.getD .skip))))))))).wp Try.prog (bodyPost Try.prog Try.f11 fun e w' => e = .returned (.bool true) ∧ Below w.heap.size w w') { tmps := #[s0, s1, s2, .pointer (some ⟨w.heap.size, 0, none⟩), s4, s5, s6, .pointer (some ⟨b7, 0, none⟩), .pointer (some ⟨b8, 0, none⟩), .pointer (some ⟨b9, 0, none⟩), s10, s11, s12, s13, s14, s15, s16, s17, s18, s19, s20, s21, s22, s23, s24, s25, s26, s27, s28, s29, s30, s31, s32, s33, s34, s35, s36, s37, s38, s39, s40, s41, s42, s43, s44, s45, s46, s47, s48, s49, s50, s51, s52, s53, s54, s55, s56, s57, s58, s59, s60, s61, s62, s63, s64, s65, s66, s67, s68, s69, s70, s71, s72, s73, s74, s75, s76, s77, s78, s79, s80, s81, s82, s83, s84, s85, s86, s87, s88, s89, s90, s91, s92, s93, s94, s95, s96, s97, s98, s99, s100, s101, s102, s103, s104, s105, s106, s107, s108, s109, s110, s111, s112, s113, s114, s115, s116, s117, s118, s119, s120, s121, s122, s123, s124, s125, s126, s127, s128, s129, s130, s131, s132, s133, s134, s135, s136, s137, s138, s139, s140, s141, s142, s143, s144, s145, s146, s147, s148, s149, s150, s151, s152, s153, s154, s155, s156, s157, s158, s159, s160, s161, s162, s163, s164, s165, s166, s167, s168, s169, s170, s171, s172, s173, s174, s175, s176, s177, s178, s179, s180, s181, s182, s183, s184, s185, s186, s187, s188, s189, s190, s191, s192, s193, s194, s195, s196, s197, s198, s199, s200, s201, s202, s203, s204, s205, s206, s207, s208, s209, s210, s211, s212, s213, s214, s215, s216, s217, s218, s219, s220, s221, s222, s223, s224, s225, s226, s227, s228, s229, s230, s231, s232, s233, s234, s235, s236, s237, s238], defers := [] } wb := by
  conv => arg 2; whnf
  have HML := Lib.hid hML
  have HMR := Lib.hid hMR
  have HB := Lib.hid hB
  have H7 := Lib.hid h7
  have H8 := Lib.hid h8
  have H9 := Lib.hid h9
  have HG := Lib.hid hG
  have HY := Lib.hid hY
  have HOK := Lib.hid hok
  have HW := Lib.hid (Gr.same wb)
  obtain ⟨p1, p2, -⟩ := Rr.ok_parts hok
  have HCT := Lib.hid (fun W (hg : Gr wb W) => count18_yes r W (hML.grow hg) (hMR.grow hg) hok)
  have HZB : ∃ z : Bool, z = decide (r.lkd.all0 = 0) := ⟨_, rfl⟩
  clear hML hMR hB h7 h8 h9 hG hY hok
  unfold Rr.cs at HB H7 H8 H9
  unfold Rr.val at HCT
  obtain ⟨r0, r1, r2, r3, r4⟩ := cells5 HB.out
  have rl := HB.out.lt
  have HEND : ∀ W : World, Gr wb W → Below w.heap.size w W := fun W hg => bgr HG.out HG.out.size hg
  have HEND := Lib.hid HEND
  by_cases hz : r.lkd.all0 = 0
  case pos =>
    have HCN := Lib.hid (fun W (hg : Gr wb W) => can23_zero r W (HML.out.grow hg) (HMR.out.grow hg) HOK.out hz (fun _ => 0))
    unfold Rr.val at HCN
    rw [hz] at HCT
    have HZ := Lib.hid hz
    clear hz HZB
    go_wp2_with (first | (go_at_call 18; (with_reducible refine (HCT.out _ HW.out).mono ?_); rintro e wn1 ⟨rfl, hb⟩; have HW := Lib.hid (show Gr wb wn1 from Gr.tr HW.out hb); have HB := Lib.hid (HB.out.grow hb); have H7 := Lib.hid (H7.out.grow hb); have H8 := Lib.hid (H8.out.grow hb); have H9 := Lib.hid (H9.out.grow hb); clear r0 r1 r2 r3 r4 rl; obtain ⟨r0, r1, r2, r3, r4⟩ := cells5 HB.out; have rl := HB.out.lt; clear hb) | (go_at_call 23; (with_reducible refine (HCN.out _ HW.out).mono ?_); rintro e wc ⟨⟨pc, kc, rfl, hx⟩, hb⟩; have HW := Lib.hid (show Gr wb wc from Gr.tr HW.out hb); have HB := Lib.hid (HB.out.grow hb); have H7 := Lib.hid (H7.out.grow hb); have H8 := Lib.hid (H8.out.grow hb); have H9 := Lib.hid (H9.out.grow hb); clear r0 r1 r2 r3 r4 rl; obtain ⟨r0, r1, r2, r3, r4⟩ := cells5 HB.out; have rl := HB.out.lt; have HCI := Lib.hid hx; clear hx; clear hb) | (with_reducible refine wpList_stopLoad (ty := 26) rfl ?_; unfold Stop; first | refine wpList_loadBox row26 rfl H7.out rfl rfl rfl ?_ | refine wpList_loadBox row26 rfl H8.out rfl rfl rfl ?_ | refine wpList_loadBox row26 rfl H9.out rfl rfl rfl ?_))
    have HWZ := Lib.hid (HW.out.tr (Gr.alloc wc (Obj.cells #[.slice yA.lp yA.L.length yA.lc, .slice yA.rp yA.R.length yA.rc, .int .i64 yA.s, .int .i64 yA.t, .int .i64 yA.h, .slice yB.lp yB.L.length yB.lc, .slice yB.rp yB.R.length yB.rc, .int .i64 yB.s, .int .i64 yB.t, .int .i64 yB.h, .slice yC.lp yC.L.length yC.lc, .slice yC.rp yC.R.length yC.rc, .int .i64 yC.s, .int .i64 yC.t, .int .i64 yC.h] 26)))
    have HR15 := Lib.hid (show Box (wc.alloc (Obj.cells #[.slice yA.lp yA.L.length yA.lc, .slice yA.rp yA.R.length yA.rc, .int .i64 yA.s, .int .i64 yA.t, .int .i64 yA.h, .slice yB.lp yB.L.length yB.lc, .slice yB.rp yB.R.length yB.rc, .int .i64 yB.s, .int .i64 yB.t, .int .i64 yB.h, .slice yC.lp yC.L.length yC.lc, .slice yC.rp yC.R.length yC.rc, .int .i64 yC.s, .int .i64 yC.t, .int .i64 yC.h] 26)) wc.heap.size ((yA.cs ++ yB.cs) ++ yC.cs) 26 from Box.fresh wc ((yA.cs ++ yB.cs) ++ yC.cs) 26)
    have HBZ := Lib.hid (HB.out.grow (Gr.alloc wc (Obj.cells #[.slice yA.lp yA.L.length yA.lc, .slice yA.rp yA.R.length yA.rc, .int .i64 yA.s, .int .i64 yA.t, .int .i64 yA.h, .slice yB.lp yB.L.length yB.lc, .slice yB.rp yB.R.length yB.rc, .int .i64 yB.s, .int .i64 yB.t, .int .i64 yB.h, .slice yC.lp yC.L.length yC.lc, .slice yC.rp yC.R.length yC.rc, .int .i64 yC.s, .int .i64 yC.t, .int .i64 yC.h] 26)))
    have HCI := Lib.hid (HCI.out.grow (Gr.alloc wc (Obj.cells #[.slice yA.lp yA.L.length yA.lc, .slice yA.rp yA.R.length yA.rc, .int .i64 yA.s, .int .i64 yA.t, .int .i64 yA.h, .slice yB.lp yB.L.length yB.lc, .slice yB.rp yB.R.length yB.rc, .int .i64 yB.s, .int .i64 yB.t, .int .i64 yB.h, .slice yC.lp yC.L.length yC.lc, .slice yC.rp yC.R.length yC.rc, .int .i64 yC.s, .int .i64 yC.t, .int .i64 yC.h] 26)))
    generalize (wc.alloc (Obj.cells #[.slice yA.lp yA.L.length yA.lc, .slice yA.rp yA.R.length yA.rc, .int .i64 yA.s, .int .i64 yA.t, .int .i64 yA.h, .slice yB.lp yB.L.length yB.lc, .slice yB.rp yB.R.length yB.rc, .int .i64 yB.s, .int .i64 yB.t, .int .i64 yB.h, .slice yC.lp yC.L.length yC.lc, .slice yC.rp yC.R.length yC.rc, .int .i64 yC.s, .int .i64 yC.t, .int .i64 yC.h] 26)) = wz at *
    generalize wc.heap.size = bq at *
    have HYC := Lib.hid (show ∀ j, j < 3 → ∃ y, (y = yA ∨ y = yB ∨ y = yC) ∧ wz.cell? ⟨bq, j * 5, none⟩ = some (.slice y.lp y.L.length y.lc) ∧ wz.cell? ⟨bq, j * 5 + 1, none⟩ = some (.slice y.rp y.R.length y.rc) ∧ wz.cell? ⟨bq, j * 5 + 2, none⟩ = some (.int .i64 y.s) ∧ wz.cell? ⟨bq, j * 5 + 3, none⟩ = some (.int .i64 y.t) ∧ wz.cell? ⟨bq, j * 5 + 4, none⟩ = some (.int .i64 y.h) by
      intro j hj
      have hj3 : j = 0 ∨ j = 1 ∨ j = 2 := by omega
      rcases hj3 with rfl | rfl | rfl
      · exact ⟨yA, .inl rfl, HR15.out.cell rfl, HR15.out.cell rfl, HR15.out.cell rfl, HR15.out.cell rfl, HR15.out.cell rfl⟩
      · exact ⟨yB, .inr (.inl rfl), HR15.out.cell rfl, HR15.out.cell rfl, HR15.out.cell rfl, HR15.out.cell rfl, HR15.out.cell rfl⟩
      · exact ⟨yC, .inr (.inr rfl), HR15.out.cell rfl, HR15.out.cell rfl, HR15.out.cell rfl, HR15.out.cell rfl, HR15.out.cell rfl⟩)
    have hbq := HR15.out.lt
    clear r0 r1 r2 r3 r4 rl HR15 HB H7 H8 H9 HCT HCN
    go_loopw [150] (fun t wr => ∃ j : Nat, j ≤ 3 ∧ t = .int .i64 j ∧ Hid (Gr wz wr)) (fun t _ => (5 - intOf t).toNat)
    case atStart => exact ⟨0, by omega, rfl, Lib.hid (Gr.same _)⟩
    case round =>
      obtain ⟨j, hj, rfl, HR⟩ := hrel
      obtain ⟨r0, r1, r2, r3, r4⟩ := cells5 (HBZ.out.grow HR.out)
      have rl := (HBZ.out.grow HR.out).lt
      by_cases hj3 : j < 3
      · obtain ⟨y, hyy, c0, c1, c2, c3, c4⟩ := HYC.out j hj3
        obtain ⟨hnw, hyo, hyL, hyR⟩ := HY.out y hyy
        obtain ⟨hc, hf, hzz⟩ := bcell HR.out
        replace c0 := (hc _ _ hbq).trans c0
        replace c1 := (hc _ _ hbq).trans c1
        replace c2 := (hc _ _ hbq).trans c2
        replace c3 := (hc _ _ hbq).trans c3
        replace c4 := (hc _ _ hbq).trans c4
        have g0 : (j : Int) < 3 := by omega
        have hql := hzz _ hbq
        have HNW := Lib.hid hnw
        have HYO := Lib.hid hyo
        have HYL := Lib.hid (fun W (hg : Gr wz W) => hyL.grow (HWZ.out.tr hg))
        have HYR := Lib.hid (fun W (hg : Gr wz W) => hyR.grow (HWZ.out.tr hg))
        have HCY := Lib.hid (fun W (hg : Gr wz W) => count18_yes y W (HYL.out W hg) (HYR.out W hg) hyo)
        have HYB := Lib.hid (Box.fresh wr y.cs 26)
        have hle := hnw.count hyo HOK.out
        unfold Rr.cs at HYB
        unfold Rr.val at HCY
        have e1 : ((y.L.length : Int) != (r.L.length : Int)) = false := by rw [hnw.nL]; simp
        have hyn := Lib.hid hnw.nL
        clear hyy hnw hyo hyL hyR hc hf hzz
        by_cases hyz : y.lkd.all0 = 0
        · have HNY := Lib.hid (fun W (hg : Gr wz W) => can23_zero y W (HYL.out W hg) (HYR.out W hg) HYO.out hyz (fun _ => 0))
          unfold Rr.val at HNY
          rw [hyz] at HCY
          clear hyz hle
          go_wp2_with (first | (go_at_call 18; (with_reducible refine (HCY.out _ (by first | exact HR.out | exact HR.out.tr (Gr.alloc _ _) | exact HR.out.tr ((Gr.alloc _ _).tr (Gr.alloc _ _)) | exact HR.out.tr (Gr.drew _))).mono ?_); rintro e wp ⟨rfl, hb⟩; have HR := Lib.hid (show Gr wz wp from by first | exact Gr.tr HR.out hb | exact Gr.tr (HR.out.tr (Gr.alloc _ _)) hb | exact Gr.tr (HR.out.tr ((Gr.alloc _ _).tr (Gr.alloc _ _))) hb | exact Gr.tr (HR.out.tr (Gr.drew _)) hb); (try have HYB := Lib.hid (HYB.out.grow (by first | exact hb | exact Gr.tr (Gr.alloc _ _) hb | exact Gr.tr ((Gr.alloc _ _).tr (Gr.alloc _ _)) hb | exact Gr.tr (Gr.drew _) hb))); (try have HQ := Lib.hid (show Gr wq wp from by first | exact Gr.tr HQ.out hb | exact Gr.tr (HQ.out.tr (Gr.alloc _ _)) hb | exact Gr.tr (HQ.out.tr ((Gr.alloc _ _).tr (Gr.alloc _ _))) hb)); clear r0 r1 r2 r3 r4 rl; (try clear y0 y1 y2 y3 y4 yl); obtain ⟨r0, r1, r2, r3, r4⟩ := cells5 (HBZ.out.grow HR.out); have rl := (HBZ.out.grow HR.out).lt; obtain ⟨y0, y1, y2, y3, y4⟩ := cells5 HYB.out; have yl := HYB.out.lt; clear hb) | (go_at_call 23; (with_reducible refine (HNY.out _ (by first | exact HR.out | exact HR.out.tr (Gr.alloc _ _) | exact HR.out.tr ((Gr.alloc _ _).tr (Gr.alloc _ _)) | exact HR.out.tr (Gr.drew _))).mono ?_); rintro e wq ⟨⟨py, ky, rfl, hx⟩, hb⟩; have HR := Lib.hid (show Gr wz wq from by first | exact Gr.tr HR.out hb | exact Gr.tr (HR.out.tr (Gr.alloc _ _)) hb | exact Gr.tr (HR.out.tr ((Gr.alloc _ _).tr (Gr.alloc _ _))) hb | exact Gr.tr (HR.out.tr (Gr.drew _)) hb); (try have HYB := Lib.hid (HYB.out.grow (by first | exact hb | exact Gr.tr (Gr.alloc _ _) hb | exact Gr.tr ((Gr.alloc _ _).tr (Gr.alloc _ _)) hb | exact Gr.tr (Gr.drew _) hb))); (try have HQ := Lib.hid (show Gr wq wq from by first | exact Gr.tr HQ.out hb | exact Gr.tr (HQ.out.tr (Gr.alloc _ _)) hb | exact Gr.tr (HQ.out.tr ((Gr.alloc _ _).tr (Gr.alloc _ _))) hb)); clear r0 r1 r2 r3 r4 rl; (try clear y0 y1 y2 y3 y4 yl); obtain ⟨r0, r1, r2, r3, r4⟩ := cells5 (HBZ.out.grow HR.out); have rl := (HBZ.out.grow HR.out).lt; obtain ⟨y0, y1, y2, y3, y4⟩ := cells5 HYB.out; have yl := HYB.out.lt; have HYI := Lib.hid hx; clear hx; clear hb))
          go_loopw [192] (fun t wr' => t = .int .i64 0 ∧ Hid (Gr wz wr')) (fun _ _ => 0)
          case atStart => exact ⟨rfl, HR⟩
          case round =>
            obtain ⟨rfl, HR⟩ := hrel
            go_wp2_with fail
            exact ⟨⟨j + 1, by omega, by go_num, HR⟩, by simp [intOf]; omega⟩
        · exact absurd (show y.lkd.all0 = 0 by have := HZ.out; omega) hyz
      · have hjn : j = 3 := by omega
        subst hjn
        have HEN := Lib.hid (HEND.out _ (HWZ.out.tr HR.out))
        have HG := Lib.hid (HG.out.tr (HWZ.out.tr HR.out))
        have HB := Lib.hid (HBZ.out.grow HR.out)
        go_wp2_with (first | (go_at_call 15; (with_reducible refine (alive_any _).mono ?_); rintro e wa ⟨rfl, hb⟩; have HG := Lib.hid (show Gr w wa from by first | exact Gr.tr HG.out hb | exact Gr.tr (HG.out.tr (Gr.alloc _ _)) hb | exact Gr.tr (HG.out.tr ((Gr.alloc _ _).tr (Gr.alloc _ _))) hb | exact Gr.tr (HG.out.tr (Gr.drew _)) hb); have HB := Lib.hid (HB.out.grow (by first | exact hb | exact Gr.tr (Gr.alloc _ _) hb | exact Gr.tr ((Gr.alloc _ _).tr (Gr.alloc _ _)) hb | exact Gr.tr (Gr.drew _) hb)); clear r0 r1 r2 r3 r4 rl; obtain ⟨r0, r1, r2, r3, r4⟩ := cells5 HB.out; have rl := HB.out.lt; clear hb))
        go_ret
        exact ⟨rfl, HG.out⟩
  case neg =>
    have HCN := Lib.hid (fun W (hg : Gr wb W) => can23_yes r W (HML.out.grow hg) (HMR.out.grow hg) HOK.out hz)
    unfold Rr.val at HCN
    have HZ := Lib.hid hz
    have a1 : decide ((0 : Int) < (r.lkd.all0 : Int)) = true := by simp; omega
    have a2 : decide (0 < r.lkd.all0) = true := by simp; omega
    clear hz HZB
    go_wp2_with (first | (go_at_call 18; (with_reducible refine (HCT.out _ HW.out).mono ?_); rintro e wn1 ⟨rfl, hb⟩; have HW := Lib.hid (show Gr wb wn1 from Gr.tr HW.out hb); have HB := Lib.hid (HB.out.grow hb); have H7 := Lib.hid (H7.out.grow hb); have H8 := Lib.hid (H8.out.grow hb); have H9 := Lib.hid (H9.out.grow hb); clear r0 r1 r2 r3 r4 rl; obtain ⟨r0, r1, r2, r3, r4⟩ := cells5 HB.out; have rl := HB.out.lt; clear hb) | (go_at_call 23; (with_reducible refine (HCN.out _ HW.out).mono ?_); rintro e wc ⟨⟨pc, kc, rfl, hx⟩, hb⟩; have HW := Lib.hid (show Gr wb wc from Gr.tr HW.out hb); have HB := Lib.hid (HB.out.grow hb); have H7 := Lib.hid (H7.out.grow hb); have H8 := Lib.hid (H8.out.grow hb); have H9 := Lib.hid (H9.out.grow hb); clear r0 r1 r2 r3 r4 rl; obtain ⟨r0, r1, r2, r3, r4⟩ := cells5 HB.out; have rl := HB.out.lt; have HCI := Lib.hid hx; clear hx; clear hb) | (with_reducible refine wpList_stopLoad (ty := 26) rfl ?_; unfold Stop; first | refine wpList_loadBox row26 rfl H7.out rfl rfl rfl ?_ | refine wpList_loadBox row26 rfl H8.out rfl rfl rfl ?_ | refine wpList_loadBox row26 rfl H9.out rfl rfl rfl ?_))
    have HWZ := Lib.hid (HW.out.tr (Gr.alloc wc (Obj.cells #[.slice yA.lp yA.L.length yA.lc, .slice yA.rp yA.R.length yA.rc, .int .i64 yA.s, .int .i64 yA.t, .int .i64 yA.h, .slice yB.lp yB.L.length yB.lc, .slice yB.rp yB.R.length yB.rc, .int .i64 yB.s, .int .i64 yB.t, .int .i64 yB.h, .slice yC.lp yC.L.length yC.lc, .slice yC.rp yC.R.length yC.rc, .int .i64 yC.s, .int .i64 yC.t, .int .i64 yC.h] 26)))
    have HR15 := Lib.hid (show Box (wc.alloc (Obj.cells #[.slice yA.lp yA.L.length yA.lc, .slice yA.rp yA.R.length yA.rc, .int .i64 yA.s, .int .i64 yA.t, .int .i64 yA.h, .slice yB.lp yB.L.length yB.lc, .slice yB.rp yB.R.length yB.rc, .int .i64 yB.s, .int .i64 yB.t, .int .i64 yB.h, .slice yC.lp yC.L.length yC.lc, .slice yC.rp yC.R.length yC.rc, .int .i64 yC.s, .int .i64 yC.t, .int .i64 yC.h] 26)) wc.heap.size ((yA.cs ++ yB.cs) ++ yC.cs) 26 from Box.fresh wc ((yA.cs ++ yB.cs) ++ yC.cs) 26)
    have HBZ := Lib.hid (HB.out.grow (Gr.alloc wc (Obj.cells #[.slice yA.lp yA.L.length yA.lc, .slice yA.rp yA.R.length yA.rc, .int .i64 yA.s, .int .i64 yA.t, .int .i64 yA.h, .slice yB.lp yB.L.length yB.lc, .slice yB.rp yB.R.length yB.rc, .int .i64 yB.s, .int .i64 yB.t, .int .i64 yB.h, .slice yC.lp yC.L.length yC.lc, .slice yC.rp yC.R.length yC.rc, .int .i64 yC.s, .int .i64 yC.t, .int .i64 yC.h] 26)))
    have HCI := Lib.hid (HCI.out.grow (Gr.alloc wc (Obj.cells #[.slice yA.lp yA.L.length yA.lc, .slice yA.rp yA.R.length yA.rc, .int .i64 yA.s, .int .i64 yA.t, .int .i64 yA.h, .slice yB.lp yB.L.length yB.lc, .slice yB.rp yB.R.length yB.rc, .int .i64 yB.s, .int .i64 yB.t, .int .i64 yB.h, .slice yC.lp yC.L.length yC.lc, .slice yC.rp yC.R.length yC.rc, .int .i64 yC.s, .int .i64 yC.t, .int .i64 yC.h] 26)))
    generalize (wc.alloc (Obj.cells #[.slice yA.lp yA.L.length yA.lc, .slice yA.rp yA.R.length yA.rc, .int .i64 yA.s, .int .i64 yA.t, .int .i64 yA.h, .slice yB.lp yB.L.length yB.lc, .slice yB.rp yB.R.length yB.rc, .int .i64 yB.s, .int .i64 yB.t, .int .i64 yB.h, .slice yC.lp yC.L.length yC.lc, .slice yC.rp yC.R.length yC.rc, .int .i64 yC.s, .int .i64 yC.t, .int .i64 yC.h] 26)) = wz at *
    generalize wc.heap.size = bq at *
    have HYC := Lib.hid (show ∀ j, j < 3 → ∃ y, (y = yA ∨ y = yB ∨ y = yC) ∧ wz.cell? ⟨bq, j * 5, none⟩ = some (.slice y.lp y.L.length y.lc) ∧ wz.cell? ⟨bq, j * 5 + 1, none⟩ = some (.slice y.rp y.R.length y.rc) ∧ wz.cell? ⟨bq, j * 5 + 2, none⟩ = some (.int .i64 y.s) ∧ wz.cell? ⟨bq, j * 5 + 3, none⟩ = some (.int .i64 y.t) ∧ wz.cell? ⟨bq, j * 5 + 4, none⟩ = some (.int .i64 y.h) by
      intro j hj
      have hj3 : j = 0 ∨ j = 1 ∨ j = 2 := by omega
      rcases hj3 with rfl | rfl | rfl
      · exact ⟨yA, .inl rfl, HR15.out.cell rfl, HR15.out.cell rfl, HR15.out.cell rfl, HR15.out.cell rfl, HR15.out.cell rfl⟩
      · exact ⟨yB, .inr (.inl rfl), HR15.out.cell rfl, HR15.out.cell rfl, HR15.out.cell rfl, HR15.out.cell rfl, HR15.out.cell rfl⟩
      · exact ⟨yC, .inr (.inr rfl), HR15.out.cell rfl, HR15.out.cell rfl, HR15.out.cell rfl, HR15.out.cell rfl, HR15.out.cell rfl⟩)
    have hbq := HR15.out.lt
    clear r0 r1 r2 r3 r4 rl HR15 HB H7 H8 H9 HCT HCN
    go_loopw [150] (fun t wr => ∃ j : Nat, j ≤ 3 ∧ t = .int .i64 j ∧ Hid (Gr wz wr)) (fun t _ => (5 - intOf t).toNat)
    case atStart => exact ⟨0, by omega, rfl, Lib.hid (Gr.same _)⟩
    case round =>
      obtain ⟨j, hj, rfl, HR⟩ := hrel
      obtain ⟨r0, r1, r2, r3, r4⟩ := cells5 (HBZ.out.grow HR.out)
      have rl := (HBZ.out.grow HR.out).lt
      by_cases hj3 : j < 3
      · obtain ⟨y, hyy, c0, c1, c2, c3, c4⟩ := HYC.out j hj3
        obtain ⟨hnw, hyo, hyL, hyR⟩ := HY.out y hyy
        obtain ⟨hc, hf, hzz⟩ := bcell HR.out
        replace c0 := (hc _ _ hbq).trans c0
        replace c1 := (hc _ _ hbq).trans c1
        replace c2 := (hc _ _ hbq).trans c2
        replace c3 := (hc _ _ hbq).trans c3
        replace c4 := (hc _ _ hbq).trans c4
        have g0 : (j : Int) < 3 := by omega
        have hql := hzz _ hbq
        have HNW := Lib.hid hnw
        have HYO := Lib.hid hyo
        have HYL := Lib.hid (fun W (hg : Gr wz W) => hyL.grow (HWZ.out.tr hg))
        have HYR := Lib.hid (fun W (hg : Gr wz W) => hyR.grow (HWZ.out.tr hg))
        have HCY := Lib.hid (fun W (hg : Gr wz W) => count18_yes y W (HYL.out W hg) (HYR.out W hg) hyo)
        have HYB := Lib.hid (Box.fresh wr y.cs 26)
        have hle := hnw.count hyo HOK.out
        unfold Rr.cs at HYB
        unfold Rr.val at HCY
        have e1 : ((y.L.length : Int) != (r.L.length : Int)) = false := by rw [hnw.nL]; simp
        have hyn := Lib.hid hnw.nL
        clear hyy hnw hyo hyL hyR hc hf hzz
        by_cases hyz : y.lkd.all0 = 0
        · have HNY := Lib.hid (fun W (hg : Gr wz W) => can23_zero y W (HYL.out W hg) (HYR.out W hg) HYO.out hyz (fun _ => 0))
          unfold Rr.val at HNY
          rw [hyz] at HCY
          clear hyz hle
          go_wp2_with (first | (go_at_call 18; (with_reducible refine (HCY.out _ (by first | exact HR.out | exact HR.out.tr (Gr.alloc _ _) | exact HR.out.tr ((Gr.alloc _ _).tr (Gr.alloc _ _)) | exact HR.out.tr (Gr.drew _))).mono ?_); rintro e wp ⟨rfl, hb⟩; have HR := Lib.hid (show Gr wz wp from by first | exact Gr.tr HR.out hb | exact Gr.tr (HR.out.tr (Gr.alloc _ _)) hb | exact Gr.tr (HR.out.tr ((Gr.alloc _ _).tr (Gr.alloc _ _))) hb | exact Gr.tr (HR.out.tr (Gr.drew _)) hb); (try have HYB := Lib.hid (HYB.out.grow (by first | exact hb | exact Gr.tr (Gr.alloc _ _) hb | exact Gr.tr ((Gr.alloc _ _).tr (Gr.alloc _ _)) hb | exact Gr.tr (Gr.drew _) hb))); (try have HQ := Lib.hid (show Gr wq wp from by first | exact Gr.tr HQ.out hb | exact Gr.tr (HQ.out.tr (Gr.alloc _ _)) hb | exact Gr.tr (HQ.out.tr ((Gr.alloc _ _).tr (Gr.alloc _ _))) hb)); clear r0 r1 r2 r3 r4 rl; (try clear y0 y1 y2 y3 y4 yl); obtain ⟨r0, r1, r2, r3, r4⟩ := cells5 (HBZ.out.grow HR.out); have rl := (HBZ.out.grow HR.out).lt; obtain ⟨y0, y1, y2, y3, y4⟩ := cells5 HYB.out; have yl := HYB.out.lt; clear hb) | (go_at_call 23; (with_reducible refine (HNY.out _ (by first | exact HR.out | exact HR.out.tr (Gr.alloc _ _) | exact HR.out.tr ((Gr.alloc _ _).tr (Gr.alloc _ _)) | exact HR.out.tr (Gr.drew _))).mono ?_); rintro e wq ⟨⟨py, ky, rfl, hx⟩, hb⟩; have HR := Lib.hid (show Gr wz wq from by first | exact Gr.tr HR.out hb | exact Gr.tr (HR.out.tr (Gr.alloc _ _)) hb | exact Gr.tr (HR.out.tr ((Gr.alloc _ _).tr (Gr.alloc _ _))) hb | exact Gr.tr (HR.out.tr (Gr.drew _)) hb); (try have HYB := Lib.hid (HYB.out.grow (by first | exact hb | exact Gr.tr (Gr.alloc _ _) hb | exact Gr.tr ((Gr.alloc _ _).tr (Gr.alloc _ _)) hb | exact Gr.tr (Gr.drew _) hb))); (try have HQ := Lib.hid (show Gr wq wq from by first | exact Gr.tr HQ.out hb | exact Gr.tr (HQ.out.tr (Gr.alloc _ _)) hb | exact Gr.tr (HQ.out.tr ((Gr.alloc _ _).tr (Gr.alloc _ _))) hb)); clear r0 r1 r2 r3 r4 rl; (try clear y0 y1 y2 y3 y4 yl); obtain ⟨r0, r1, r2, r3, r4⟩ := cells5 (HBZ.out.grow HR.out); have rl := (HBZ.out.grow HR.out).lt; obtain ⟨y0, y1, y2, y3, y4⟩ := cells5 HYB.out; have yl := HYB.out.lt; have HYI := Lib.hid hx; clear hx; clear hb))
          go_loopw [192] (fun t wr' => t = .int .i64 0 ∧ Hid (Gr wz wr')) (fun _ _ => 0)
          case atStart => exact ⟨rfl, HR⟩
          case round =>
            obtain ⟨rfl, HR⟩ := hrel
            go_wp2_with fail
            exact ⟨⟨j + 1, by omega, by go_num, HR⟩, by simp [intOf]; omega⟩
        · have HNY := Lib.hid (fun W (hg : Gr wz W) => can23_yes y W (HYL.out W hg) (HYR.out W hg) HYO.out hyz)
          unfold Rr.val at HNY
          have HYZ := Lib.hid hyz
          have e2 : decide ((0 : Int) < (y.lkd.all0 : Int)) = true := by simp; omega
          have e3 : decide (0 < y.lkd.all0) = true := by simp; omega
          have e4 : decide ((r.lkd.all0 : Int) < (y.lkd.all0 : Int)) = false := by simp; omega
          have e5 : decide (r.lkd.all0 < y.lkd.all0) = false := by simp; omega
          clear hyz hle
          go_wp2_with (first | (go_at_call 18; (with_reducible refine (HCY.out _ (by first | exact HR.out | exact HR.out.tr (Gr.alloc _ _) | exact HR.out.tr ((Gr.alloc _ _).tr (Gr.alloc _ _)) | exact HR.out.tr (Gr.drew _))).mono ?_); rintro e wp ⟨rfl, hb⟩; have HR := Lib.hid (show Gr wz wp from by first | exact Gr.tr HR.out hb | exact Gr.tr (HR.out.tr (Gr.alloc _ _)) hb | exact Gr.tr (HR.out.tr ((Gr.alloc _ _).tr (Gr.alloc _ _))) hb | exact Gr.tr (HR.out.tr (Gr.drew _)) hb); (try have HYB := Lib.hid (HYB.out.grow (by first | exact hb | exact Gr.tr (Gr.alloc _ _) hb | exact Gr.tr ((Gr.alloc _ _).tr (Gr.alloc _ _)) hb | exact Gr.tr (Gr.drew _) hb))); (try have HQ := Lib.hid (show Gr wq wp from by first | exact Gr.tr HQ.out hb | exact Gr.tr (HQ.out.tr (Gr.alloc _ _)) hb | exact Gr.tr (HQ.out.tr ((Gr.alloc _ _).tr (Gr.alloc _ _))) hb)); clear r0 r1 r2 r3 r4 rl; (try clear y0 y1 y2 y3 y4 yl); obtain ⟨r0, r1, r2, r3, r4⟩ := cells5 (HBZ.out.grow HR.out); have rl := (HBZ.out.grow HR.out).lt; obtain ⟨y0, y1, y2, y3, y4⟩ := cells5 HYB.out; have yl := HYB.out.lt; clear hb) | (go_at_call 23; (with_reducible refine (HNY.out _ (by first | exact HR.out | exact HR.out.tr (Gr.alloc _ _) | exact HR.out.tr ((Gr.alloc _ _).tr (Gr.alloc _ _)) | exact HR.out.tr (Gr.drew _))).mono ?_); rintro e wq ⟨⟨py, ky, rfl, hx⟩, hb⟩; have HR := Lib.hid (show Gr wz wq from by first | exact Gr.tr HR.out hb | exact Gr.tr (HR.out.tr (Gr.alloc _ _)) hb | exact Gr.tr (HR.out.tr ((Gr.alloc _ _).tr (Gr.alloc _ _))) hb | exact Gr.tr (HR.out.tr (Gr.drew _)) hb); (try have HYB := Lib.hid (HYB.out.grow (by first | exact hb | exact Gr.tr (Gr.alloc _ _) hb | exact Gr.tr ((Gr.alloc _ _).tr (Gr.alloc _ _)) hb | exact Gr.tr (Gr.drew _) hb))); (try have HQ := Lib.hid (show Gr wq wq from by first | exact Gr.tr HQ.out hb | exact Gr.tr (HQ.out.tr (Gr.alloc _ _)) hb | exact Gr.tr (HQ.out.tr ((Gr.alloc _ _).tr (Gr.alloc _ _))) hb)); clear r0 r1 r2 r3 r4 rl; (try clear y0 y1 y2 y3 y4 yl); obtain ⟨r0, r1, r2, r3, r4⟩ := cells5 (HBZ.out.grow HR.out); have rl := (HBZ.out.grow HR.out).lt; obtain ⟨y0, y1, y2, y3, y4⟩ := cells5 HYB.out; have yl := HYB.out.lt; have HYI := Lib.hid hx; clear hx; clear hb))
          have hbyl := HYB.out.lt
          generalize wr.heap.size = bY at *
          clear r0 r1 r2 r3 r4 rl y0 y1 y2 y3 y4 yl c0 c1 c2 c3 c4 e2 e3 e4 e5
          have HRQ := HR
          have HYBQ := HYB
          go_loopw [192] (fun t wr' => ∃ i : Nat, i ≤ y.L.length ∧ t = .int .i64 i ∧ Hid (Gr wq wr')) (fun t _ => (20 - intOf t).toNat)
          case atStart => exact ⟨0, Nat.zero_le _, rfl, Lib.hid (Gr.same _)⟩
          case round =>
            clear HR HYB
            obtain ⟨i, hi, rfl, HQ⟩ := hrel
            rename World => wx
            have HR := Lib.hid (HRQ.out.tr HQ.out)
            have HYB := Lib.hid (HYBQ.out.grow HQ.out)
            obtain ⟨r0, r1, r2, r3, r4⟩ := cells5 (HBZ.out.grow HR.out)
            have rl := (HBZ.out.grow HR.out).lt
            obtain ⟨y0, y1, y2, y3, y4⟩ := cells5 HYB.out
            have yl := HYB.out.lt
            by_cases hlt : i < y.L.length
            · have hltr : i < r.L.length := by rw [← hyn.out]; exact hlt
              obtain ⟨bo, oo, hpo, hbo, hco⟩ := (HYI.out.grow HQ.out) i hlt
              obtain ⟨bc, oc, hpc, hbc, hcc⟩ := (HCI.out.grow HR.out) i hltr
              subst hpo hpc
              dsimp only at hco hcc
              have g1 : (i : Int) < y.L.length := by omega
              have g2 : (i : Int) < r.L.length := by omega
              have hm1 := lt_4096 (Rr.ptn_lt (r := r) i) p2
              have hm2 := lt_4096 (Rr.ptn_lt (r := y) i) (by rw [HNW.out.nR]; exact p2)
              have hsub := andNot_sub (a := y.lkd.ptn i) (b := r.lkd.ptn i) (by omega) (by omega) (fun k hk => HNW.out.bit HYO.out HOK.out hltr hk)
              generalize y.lkd.ptn i = my at *
              generalize r.lkd.ptn i = mr at *
              cases hys : (y.shE i).s with
              | false =>
                have HSY := Lib.hid (fun W (hg : Gr wz W) => shift30_none y W (HYL.out W hg) (HYR.out W hg) HYO.out HYZ.out i hlt hys)
                obtain ⟨ra, rb, rc, hsr⟩ : ∃ ra rb rc : Int, ∀ W, Gr wz W → Calls Try.prog 30 #[r.val, .int .i64 i] W fun e w' => e = .returned (.tuple #[.agg #[.int .i64 ra, .int .i64 rb], .int .i64 rc]) ∧ Below W.heap.size W w' := by
                  cases hrs : (r.shE i).s with
                  | false => exact ⟨_, _, _, fun W hg => shift30_none r W (HML.out.grow (HWZ.out.tr hg)) (HMR.out.grow (HWZ.out.tr hg)) HOK.out HZ.out i hltr hrs⟩
                  | true => exact ⟨_, _, _, fun W hg => shift30_some r W (HML.out.grow (HWZ.out.tr hg)) (HMR.out.grow (HWZ.out.tr hg)) HOK.out HZ.out i hltr hrs⟩
                have HSR := Lib.hid hsr
                unfold Rr.val at HSY HSR
                clear hys hsr
                go_wp2_with (first | (go_at_call 30; (with_reducible refine (HSR.out _ (by first | exact HR.out | exact HR.out.tr (Gr.alloc _ _) | exact HR.out.tr ((Gr.alloc _ _).tr (Gr.alloc _ _)) | exact HR.out.tr (Gr.drew _))).mono ?_); rintro e we ⟨rfl, hb⟩; have HR := Lib.hid (show Gr wz we from by first | exact Gr.tr HR.out hb | exact Gr.tr (HR.out.tr (Gr.alloc _ _)) hb | exact Gr.tr (HR.out.tr ((Gr.alloc _ _).tr (Gr.alloc _ _))) hb | exact Gr.tr (HR.out.tr (Gr.drew _)) hb); (try have HYB := Lib.hid (HYB.out.grow (by first | exact hb | exact Gr.tr (Gr.alloc _ _) hb | exact Gr.tr ((Gr.alloc _ _).tr (Gr.alloc _ _)) hb | exact Gr.tr (Gr.drew _) hb))); (try have HQ := Lib.hid (show Gr wq we from by first | exact Gr.tr HQ.out hb | exact Gr.tr (HQ.out.tr (Gr.alloc _ _)) hb | exact Gr.tr (HQ.out.tr ((Gr.alloc _ _).tr (Gr.alloc _ _))) hb)); clear r0 r1 r2 r3 r4 rl; (try clear y0 y1 y2 y3 y4 yl); obtain ⟨r0, r1, r2, r3, r4⟩ := cells5 (HBZ.out.grow HR.out); have rl := (HBZ.out.grow HR.out).lt; obtain ⟨y0, y1, y2, y3, y4⟩ := cells5 HYB.out; have yl := HYB.out.lt; clear hb) | (go_at_call 30; (with_reducible refine (HSY.out _ (by first | exact HR.out | exact HR.out.tr (Gr.alloc _ _) | exact HR.out.tr ((Gr.alloc _ _).tr (Gr.alloc _ _)) | exact HR.out.tr (Gr.drew _))).mono ?_); rintro e wf ⟨rfl, hb⟩; have HR := Lib.hid (show Gr wz wf from by first | exact Gr.tr HR.out hb | exact Gr.tr (HR.out.tr (Gr.alloc _ _)) hb | exact Gr.tr (HR.out.tr ((Gr.alloc _ _).tr (Gr.alloc _ _))) hb | exact Gr.tr (HR.out.tr (Gr.drew _)) hb); (try have HYB := Lib.hid (HYB.out.grow (by first | exact hb | exact Gr.tr (Gr.alloc _ _) hb | exact Gr.tr ((Gr.alloc _ _).tr (Gr.alloc _ _)) hb | exact Gr.tr (Gr.drew _) hb))); (try have HSB := Lib.hid (HSB.out.grow (by first | exact hb | exact Gr.tr (Gr.alloc _ _) hb | exact Gr.tr ((Gr.alloc _ _).tr (Gr.alloc _ _)) hb | exact Gr.tr (Gr.drew _) hb))); (try have HQ := Lib.hid (show Gr wq wf from by first | exact Gr.tr HQ.out hb | exact Gr.tr (HQ.out.tr (Gr.alloc _ _)) hb | exact Gr.tr (HQ.out.tr ((Gr.alloc _ _).tr (Gr.alloc _ _))) hb)); clear r0 r1 r2 r3 r4 rl; (try clear y0 y1 y2 y3 y4 yl); obtain ⟨r0, r1, r2, r3, r4⟩ := cells5 (HBZ.out.grow HR.out); have rl := (HBZ.out.grow HR.out).lt; obtain ⟨y0, y1, y2, y3, y4⟩ := cells5 HYB.out; have yl := HYB.out.lt; clear hb))
                exact ⟨⟨i + 1, by omega, by go_num, Lib.hid (by first | exact HQ.out | exact HQ.out.tr (Gr.alloc _ _))⟩, by simp [intOf]; omega⟩
              | true =>
                obtain ⟨hrs, hra, hrb⟩ := HNW.out.shift HYO.out HOK.out hltr hys
                have HSY := Lib.hid (fun W (hg : Gr wz W) => shift30_some y W (HYL.out W hg) (HYR.out W hg) HYO.out HYZ.out i hlt hys)
                have HSR := Lib.hid (fun W (hg : Gr wz W) => shift30_some r W (HML.out.grow (HWZ.out.tr hg)) (HMR.out.grow (HWZ.out.tr hg)) HOK.out HZ.out i hltr hrs)
                unfold Rr.val at HSY HSR
                generalize (y.shE i).a = ya at *
                generalize (y.shE i).b = yb at *
                generalize (r.shE i).a = ra at *
                generalize (r.shE i).b = rb at *
                have b1 : decide (ya < ra) = false := by simp; omega
                have b2 : decide (rb < yb) = false := by simp; omega
                clear hys hrs hra hrb
                go_wp2_with (first | (go_at_call 30; (with_reducible refine (HSR.out _ (by first | exact HR.out | exact HR.out.tr (Gr.alloc _ _) | exact HR.out.tr ((Gr.alloc _ _).tr (Gr.alloc _ _)) | exact HR.out.tr (Gr.drew _))).mono ?_); rintro e we ⟨rfl, hb⟩; have HR := Lib.hid (show Gr wz we from by first | exact Gr.tr HR.out hb | exact Gr.tr (HR.out.tr (Gr.alloc _ _)) hb | exact Gr.tr (HR.out.tr ((Gr.alloc _ _).tr (Gr.alloc _ _))) hb | exact Gr.tr (HR.out.tr (Gr.drew _)) hb); (try have HYB := Lib.hid (HYB.out.grow (by first | exact hb | exact Gr.tr (Gr.alloc _ _) hb | exact Gr.tr ((Gr.alloc _ _).tr (Gr.alloc _ _)) hb | exact Gr.tr (Gr.drew _) hb))); (try have HQ := Lib.hid (show Gr wq we from by first | exact Gr.tr HQ.out hb | exact Gr.tr (HQ.out.tr (Gr.alloc _ _)) hb | exact Gr.tr (HQ.out.tr ((Gr.alloc _ _).tr (Gr.alloc _ _))) hb)); clear r0 r1 r2 r3 r4 rl; (try clear y0 y1 y2 y3 y4 yl); obtain ⟨r0, r1, r2, r3, r4⟩ := cells5 (HBZ.out.grow HR.out); have rl := (HBZ.out.grow HR.out).lt; obtain ⟨y0, y1, y2, y3, y4⟩ := cells5 HYB.out; have yl := HYB.out.lt; clear hb) | (go_at_call 30; have HSB := Lib.hid (Box.fresh we [.int .i64 ra, .int .i64 rb] 24); (with_reducible refine (HSY.out _ (by first | exact HR.out | exact HR.out.tr (Gr.alloc _ _) | exact HR.out.tr ((Gr.alloc _ _).tr (Gr.alloc _ _)) | exact HR.out.tr (Gr.drew _))).mono ?_); rintro e wf ⟨rfl, hb⟩; have HR := Lib.hid (show Gr wz wf from by first | exact Gr.tr HR.out hb | exact Gr.tr (HR.out.tr (Gr.alloc _ _)) hb | exact Gr.tr (HR.out.tr ((Gr.alloc _ _).tr (Gr.alloc _ _))) hb | exact Gr.tr (HR.out.tr (Gr.drew _)) hb); (try have HYB := Lib.hid (HYB.out.grow (by first | exact hb | exact Gr.tr (Gr.alloc _ _) hb | exact Gr.tr ((Gr.alloc _ _).tr (Gr.alloc _ _)) hb | exact Gr.tr (Gr.drew _) hb))); (try have HSB := Lib.hid (HSB.out.grow (by first | exact hb | exact Gr.tr (Gr.alloc _ _) hb | exact Gr.tr ((Gr.alloc _ _).tr (Gr.alloc _ _)) hb | exact Gr.tr (Gr.drew _) hb))); (try have HQ := Lib.hid (show Gr wq wf from by first | exact Gr.tr HQ.out hb | exact Gr.tr (HQ.out.tr (Gr.alloc _ _)) hb | exact Gr.tr (HQ.out.tr ((Gr.alloc _ _).tr (Gr.alloc _ _))) hb)); clear r0 r1 r2 r3 r4 rl; (try clear y0 y1 y2 y3 y4 yl); obtain ⟨r0, r1, r2, r3, r4⟩ := cells5 (HBZ.out.grow HR.out); have rl := (HBZ.out.grow HR.out).lt; obtain ⟨y0, y1, y2, y3, y4⟩ := cells5 HYB.out; have yl := HYB.out.lt; have s0 := HSB.out.cell (i := 0) rfl; have s1 := HSB.out.cell (i := 1) rfl; have sl := HSB.out.lt; clear hb))
                exact ⟨⟨i + 1, by omega, by go_num, Lib.hid (by first | exact HQ.out | exact HQ.out.tr (Gr.alloc _ _))⟩, by simp [intOf]; omega⟩
            · have hin : i = y.L.length := by omega
              subst hin
              go_wp2_with fail
              exact ⟨⟨j + 1, by omega, by go_num, HR⟩, by simp [intOf]; omega⟩
      · have hjn : j = 3 := by omega
        subst hjn
        have HEN := Lib.hid (HEND.out _ (HWZ.out.tr HR.out))
        have HG := Lib.hid (HG.out.tr (HWZ.out.tr HR.out))
        have HB := Lib.hid (HBZ.out.grow HR.out)
        go_wp2_with (first | (go_at_call 15; (with_reducible refine (alive_any _).mono ?_); rintro e wa ⟨rfl, hb⟩; have HG := Lib.hid (show Gr w wa from by first | exact Gr.tr HG.out hb | exact Gr.tr (HG.out.tr (Gr.alloc _ _)) hb | exact Gr.tr (HG.out.tr ((Gr.alloc _ _).tr (Gr.alloc _ _))) hb | exact Gr.tr (HG.out.tr (Gr.drew _)) hb); have HB := Lib.hid (HB.out.grow (by first | exact hb | exact Gr.tr (Gr.alloc _ _) hb | exact Gr.tr ((Gr.alloc _ _).tr (Gr.alloc _ _)) hb | exact Gr.tr (Gr.drew _) hb)); clear r0 r1 r2 r3 r4 rl; obtain ⟨r0, r1, r2, r3, r4⟩ := cells5 HB.out; have rl := HB.out.lt; clear hb))
        go_ret
        exact ⟨rfl, HG.out⟩

end Go.Proofs.Ytjlaoiimbhlafaa
