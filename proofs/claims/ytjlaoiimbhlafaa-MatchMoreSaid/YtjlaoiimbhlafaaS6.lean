import Derived.Test.YtjlaoiimbhlafaaS5
import Derived.Deep.RegionHeld3
import Derived.Deep.DrawnRows
import Derived.Deep.CutBlock
import Derived.Deep.DeepCutAuto
import Derived.Laws.StructEq
set_option linter.unusedVariables false
set_option linter.unusedSimpArgs false
namespace Go.Proofs.Ytjlaoiimbhlafaa
open Go.RowKit Go.Shelf

open MW
attribute [local go_sem] Oper.semAt_some run_store_func
attribute [local go_sem ↓] Go.wp_at_zero Go.wp_at_succ
attribute [local go_sem] guard55 guard24 neq55 eql24 neq24
attribute [-go_sem] run_eql_struct run_neq_struct
set_option maxRecDepth 100000 in
set_option maxHeartbeats 8000000 in
theorem lmore_r8 (r yA yB : Rr) (bn b7 b8 b9 g cp : Nat) (w w8 : World) (hbn : bn ≤ 255) (hok : r.ok = true) (hn : r.L.length ≠ 0) (hML : MksAt r.L r.lp w) (hMR : MksAt r.R r.rp w) (n2 : b7 ≠ b9) (n3 : b8 ≠ b9) (n6 : w.heap.size < b9) (ng : g ≠ b9)
    (h7 : Box w8 b7 yA.cs 26) (h8 : Box w8 b8 yB.cs 26) (h9 : Box w8 b9 r.cs 26) (hB : Box w8 w.heap.size r.cs 26) (hG : Gr w w8) (hmk : MkBox w8 g yB.L) (hlp : yB.lp = some ⟨g, 0, none⟩) (hlen : yB.L.length ≤ 1000)
    (nA : yA.Nw r) (oA : yA.ok = true) (lA : yA.L = r.L ∧ yA.lp = r.lp ∧ yA.R = r.R ∧ yA.rp = r.rp) (nB : yB.Nw r) (oB : yB.ok = true) (lB : yB.R = r.R ∧ yB.rp = r.rp) {s0 s1 s4 s5 s6 s10 s11 s12 s13 s14 s15 s16 s17 s18 s19 s20 s21 s22 s23 s24 s25 s26 s27 s28 s29 s30 s31 s32 s33 s34 s35 s36 s37 s38 s39 s40 s41 s42 s43 s44 s45 s46 s47 s48 s49 s50 s51 s52 s53 s54 s55 s56 s57 s58 s59 s60 s61 s62 s63 s64 s65 s66 s67 s68 s69 s70 s71 s72 s73 s74 s75 s76 s77 s78 s79 s80 s81 s82 s83 s84 s85 s86 s87 s88 s89 s90 s91 s92 s93 s94 s95 s96 s97 s98 s99 s100 s101 s102 s103 s104 s105 s106 s107 s108 s109 s110 s111 s112 s113 s114 s115 s116 s117 s118 s119 s120 s121 s122 s123 s124 s125 s126 s127 s128 s129 s130 s131 s132 s133 s134 s135 s136 s137 s138 s139 s140 s141 s142 s143 s144 s145 s146 s147 s148 s149 s150 s151 s152 s153 s154 s155 s156 s157 s158 s159 s160 s161 s162 s163 s164 s165 s166 s167 s168 s169 s170 s171 s172 s173 s174 s175 s176 s177 s178 s179 s180 s181 s182 s183 s184 s185 s186 s187 s188 s189 s190 s191 s192 s193 s194 s195 s196 s197 s198 s199 s200 s201 s202 s203 s204 s205 s206 s207 s208 s209 s210 s211 s212 s213 s214 s215 s216 s217 s218 s219 s220 s221 s222 s223 s224 s225 s226 s227 s228 s229 s230 s231 s232 s233 s234 s235 s236 s237 s238 : Value} :
    (Code.snd1 (Code.snd1 (Code.snd1 (Code.snd1 (Code.snd1 (Code.snd1 (Code.snd1 (Try.f11.body.getD .skip)))))))).wp Try.prog (bodyPost Try.prog Try.f11 fun e w' => e = .returned (.bool true) ∧ Below w.heap.size w w') { tmps := #[s0, s1, .int .u8 bn, .pointer (some ⟨w.heap.size, 0, none⟩), s4, s5, s6, .pointer (some ⟨b7, 0, none⟩), .pointer (some ⟨b8, 0, none⟩), .pointer (some ⟨b9, 0, none⟩), s10, s11, s12, s13, s14, s15, s16, s17, s18, s19, s20, s21, s22, s23, s24, s25, s26, s27, s28, s29, s30, s31, s32, s33, s34, s35, s36, s37, s38, s39, s40, s41, s42, s43, s44, s45, s46, s47, s48, s49, s50, s51, s52, s53, s54, s55, s56, s57, s58, s59, s60, s61, s62, s63, s64, s65, s66, s67, s68, s69, s70, s71, s72, s73, s74, s75, s76, s77, s78, s79, s80, s81, s82, s83, s84, s85, s86, s87, s88, s89, s90, s91, s92, s93, s94, s95, s96, s97, s98, s99, s100, s101, s102, s103, s104, s105, s106, s107, s108, s109, s110, s111, s112, s113, s114, s115, s116, s117, s118, s119, s120, s121, s122, s123, s124, s125, s126, s127, s128, s129, s130, s131, s132, s133, s134, s135, s136, s137, s138, s139, s140, s141, s142, s143, s144, s145, s146, s147, s148, s149, s150, s151, s152, s153, s154, s155, s156, s157, s158, s159, s160, s161, s162, s163, s164, s165, s166, s167, s168, s169, s170, s171, s172, s173, s174, s175, s176, s177, s178, s179, s180, s181, s182, s183, s184, s185, s186, s187, s188, s189, s190, s191, s192, s193, s194, s195, s196, s197, s198, s199, s200, s201, s202, s203, s204, s205, s206, s207, s208, s209, s210, s211, s212, s213, s214, s215, s216, s217, s218, s219, s220, s221, s222, s223, s224, s225, s226, s227, s228, s229, s230, s231, s232, s233, s234, s235, s236, s237, s238], defers := [] } w8 := by
  conv => arg 2; whnf
  obtain ⟨-, -, -, -, ⟨p5, p6, p7⟩, -, -⟩ := Rr.ok_parts hok
  have HOK := Lib.hid hok
  have HML := Lib.hid hML
  have HMR := Lib.hid hMR
  have H7 := Lib.hid h7
  have H8 := Lib.hid h8
  have H9 := Lib.hid h9
  have HB := Lib.hid hB
  have HG := Lib.hid hG
  have HMK := Lib.hid hmk
  have HLP := Lib.hid hlp
  have HLA := Lib.hid lA
  have HLB := Lib.hid lB
  have HNA := Lib.hid nA
  have HNB := Lib.hid nB
  have HOA := Lib.hid oA
  have HOB := Lib.hid oB
  have HN0 := Lib.hid hn
  clear hok hML hMR h7 h8 h9 hB hG hmk hlp lA lB nA nB oA oB hn
  unfold Rr.cs at H7 H8 H9 HB
  obtain ⟨r0, r1, r2, r3, r4⟩ := cells5 HB.out
  have rl := HB.out.lt
  apply wp_seq_k
  intro KK hKK
  have HKK := Lib.hid hKK
  clear hKK
  obtain ⟨sv, hsv⟩ : ∃ sv, sv = (if r.s + (bn : Int) % 5 < r.t then r.s + (bn : Int) % 5 else r.t) := ⟨_, rfl⟩
  have HSV : r.s ≤ sv ∧ sv ≤ r.t := by rw [hsv]; split <;> omega
  have HSW := Lib.hid hsv
  clear hsv
  go_wp2_with (first | (go_at_call 35; (with_reducible refine (span35_any _ _ _).mono ?_); rintro e w9 ⟨rfl, hb⟩; have HG := Lib.hid (show Gr w w9 from by first | exact Gr.tr HG.out hb | exact Gr.tr (HG.out.tr (Gr.alloc _ _)) hb | exact Gr.tr (HG.out.tr ((Gr.alloc _ _).tr (Gr.alloc _ _))) hb | exact Gr.tr (HG.out.tr (Gr.drew _)) hb); have HB := Lib.hid (HB.out.grow (by first | exact hb | exact Gr.tr (Gr.alloc _ _) hb | exact Gr.tr ((Gr.alloc _ _).tr (Gr.alloc _ _)) hb | exact Gr.tr (Gr.drew _) hb)); (try have H7 := Lib.hid (H7.out.grow (by first | exact hb | exact Gr.tr (Gr.alloc _ _) hb | exact Gr.tr ((Gr.alloc _ _).tr (Gr.alloc _ _)) hb | exact Gr.tr (Gr.drew _) hb))); (try have H8 := Lib.hid (H8.out.grow (by first | exact hb | exact Gr.tr (Gr.alloc _ _) hb | exact Gr.tr ((Gr.alloc _ _).tr (Gr.alloc _ _)) hb | exact Gr.tr (Gr.drew _) hb))); (try have H9 := Lib.hid (H9.out.grow (by first | exact hb | exact Gr.tr (Gr.alloc _ _) hb | exact Gr.tr ((Gr.alloc _ _).tr (Gr.alloc _ _)) hb | exact Gr.tr (Gr.drew _) hb))); (try have HMK := Lib.hid (HMK.out.grow (by first | exact hb | exact Gr.tr (Gr.alloc _ _) hb | exact Gr.tr ((Gr.alloc _ _).tr (Gr.alloc _ _)) hb | exact Gr.tr (Gr.drew _) hb))); clear r0 r1 r2 r3 r4 rl; obtain ⟨r0, r1, r2, r3, r4⟩ := cells5 HB.out; have rl := HB.out.lt; have q2 := H9.out.cell (i := 2) rfl; have q3 := H9.out.cell (i := 3) rfl; have qf2 := H9.out.free (i := 2); have qf3 := H9.out.free (i := 3); have ql := H9.out.lt; clear hb))
  · have HGb := Lib.hid (show Gr w ((w9.setCell ⟨b9, 2, none⟩ (.int .i64 (r.s + (bn : Int) % 5))).setCell ⟨b9, 3, none⟩ (.int .i64 r.t)) from Below.setCell (Below.setCell HG.out (show w.heap.size ≤ b9 by omega) _) (show w.heap.size ≤ b9 by omega) _)
    have h7b : Box ((w9.setCell ⟨b9, 2, none⟩ (.int .i64 (r.s + (bn : Int) % 5))).setCell ⟨b9, 3, none⟩ (.int .i64 r.t)) b7 yA.cs 26 := (H7.out.other (show b7 ≠ b9 by omega) 2 _).other (show b7 ≠ b9 by omega) 3 _
    have h8b : Box ((w9.setCell ⟨b9, 2, none⟩ (.int .i64 (r.s + (bn : Int) % 5))).setCell ⟨b9, 3, none⟩ (.int .i64 r.t)) b8 yB.cs 26 := (H8.out.other (show b8 ≠ b9 by omega) 2 _).other (show b8 ≠ b9 by omega) 3 _
    have h9b : Box ((w9.setCell ⟨b9, 2, none⟩ (.int .i64 (r.s + (bn : Int) % 5))).setCell ⟨b9, 3, none⟩ (.int .i64 r.t)) b9 (r.wS (r.s + (bn : Int) % 5) r.t).cs 26 := (H9.out.put 2 _).put 3 _
    have hBb : Box ((w9.setCell ⟨b9, 2, none⟩ (.int .i64 (r.s + (bn : Int) % 5))).setCell ⟨b9, 3, none⟩ (.int .i64 r.t)) w.heap.size r.cs 26 := (HB.out.other (show w.heap.size ≠ b9 by omega) 2 _).other (show w.heap.size ≠ b9 by omega) 3 _
    have hmb : MkBox ((w9.setCell ⟨b9, 2, none⟩ (.int .i64 (r.s + (bn : Int) % 5))).setCell ⟨b9, 3, none⟩ (.int .i64 r.t)) g yB.L := (HMK.out.other ng 2 _).other ng 3 _
    have hs1 : r.s ≤ (r.s + (bn : Int) % 5) := by omega
    have hs2 : (r.s + (bn : Int) % 5) ≤ r.t := by omega
    refine HKK.out _ _ (lmore_rest r yA yB (r.wS (r.s + (bn : Int) % 5) r.t) b7 b8 b9 w _ HOK.out HN0.out (HML.out.grow HGb.out) (HMR.out.grow HGb.out) hBb h7b h8b h9b HGb.out ?_)
    rintro y (rfl | rfl | rfl)
    · exact ⟨HNA.out, HOA.out, by rw [HLA.out.1, HLA.out.2.1]; exact HML.out.grow HGb.out, by rw [HLA.out.2.2.1, HLA.out.2.2.2]; exact HMR.out.grow HGb.out⟩
    · exact ⟨HNB.out, HOB.out, by rw [HLP.out]; exact hmb.at hlen, by rw [HLB.out.1, HLB.out.2]; exact HMR.out.grow HGb.out⟩
    · exact ⟨Rr.wS_nw r hs1 (Int.le_refl _), Rr.wS_ok HOK.out hs1 (Int.le_refl _) hs2, HML.out.grow HGb.out, HMR.out.grow HGb.out⟩
  · have HGb := Lib.hid (show Gr w ((w9.setCell ⟨b9, 2, none⟩ (.int .i64 (r.t))).setCell ⟨b9, 3, none⟩ (.int .i64 r.t)) from Below.setCell (Below.setCell HG.out (show w.heap.size ≤ b9 by omega) _) (show w.heap.size ≤ b9 by omega) _)
    have h7b : Box ((w9.setCell ⟨b9, 2, none⟩ (.int .i64 (r.t))).setCell ⟨b9, 3, none⟩ (.int .i64 r.t)) b7 yA.cs 26 := (H7.out.other (show b7 ≠ b9 by omega) 2 _).other (show b7 ≠ b9 by omega) 3 _
    have h8b : Box ((w9.setCell ⟨b9, 2, none⟩ (.int .i64 (r.t))).setCell ⟨b9, 3, none⟩ (.int .i64 r.t)) b8 yB.cs 26 := (H8.out.other (show b8 ≠ b9 by omega) 2 _).other (show b8 ≠ b9 by omega) 3 _
    have h9b : Box ((w9.setCell ⟨b9, 2, none⟩ (.int .i64 (r.t))).setCell ⟨b9, 3, none⟩ (.int .i64 r.t)) b9 (r.wS (r.t) r.t).cs 26 := (H9.out.put 2 _).put 3 _
    have hBb : Box ((w9.setCell ⟨b9, 2, none⟩ (.int .i64 (r.t))).setCell ⟨b9, 3, none⟩ (.int .i64 r.t)) w.heap.size r.cs 26 := (HB.out.other (show w.heap.size ≠ b9 by omega) 2 _).other (show w.heap.size ≠ b9 by omega) 3 _
    have hmb : MkBox ((w9.setCell ⟨b9, 2, none⟩ (.int .i64 (r.t))).setCell ⟨b9, 3, none⟩ (.int .i64 r.t)) g yB.L := (HMK.out.other ng 2 _).other ng 3 _
    have hs1 : r.s ≤ (r.t) := by omega
    have hs2 : (r.t) ≤ r.t := by omega
    refine HKK.out _ _ (lmore_rest r yA yB (r.wS (r.t) r.t) b7 b8 b9 w _ HOK.out HN0.out (HML.out.grow HGb.out) (HMR.out.grow HGb.out) hBb h7b h8b h9b HGb.out ?_)
    rintro y (rfl | rfl | rfl)
    · exact ⟨HNA.out, HOA.out, by rw [HLA.out.1, HLA.out.2.1]; exact HML.out.grow HGb.out, by rw [HLA.out.2.2.1, HLA.out.2.2.2]; exact HMR.out.grow HGb.out⟩
    · exact ⟨HNB.out, HOB.out, by rw [HLP.out]; exact hmb.at hlen, by rw [HLB.out.1, HLB.out.2]; exact HMR.out.grow HGb.out⟩
    · exact ⟨Rr.wS_nw r hs1 (Int.le_refl _), Rr.wS_ok HOK.out hs1 (Int.le_refl _) hs2, HML.out.grow HGb.out, HMR.out.grow HGb.out⟩

end Go.Proofs.Ytjlaoiimbhlafaa
