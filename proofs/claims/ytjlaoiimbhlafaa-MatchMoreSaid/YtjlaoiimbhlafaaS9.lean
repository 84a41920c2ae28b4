import Derived.Test.YtjlaoiimbhlafaaS6
import Derived.Deep.RegionHeld3
import Derived.Deep.DrawnRows
import Derived.Deep.CutBlock
import Derived.Deep.DeepCutAuto
import Derived.Laws.StructEq
set_option linter.unusedVariables false
set_option linter.unusedSimpArgs false
namespace Go.Proofs.Ytjlaoiimbhlafaa
open Go.RowKit Go.Shelf

open MW
attribute [local go_sem] Oper.semAt_some run_store_func
attribute [local go_sem ↓] Go.wp_at_zero Go.wp_at_succ
attribute [local go_sem] guard55 guard24 neq55 eql24 neq24
attribute [-go_sem] run_eql_struct run_neq_struct
set_option maxRecDepth 100000 in
set_option maxHeartbeats 8000000 in
theorem lmore_mid (r : Rr) (wn bn b7 b8 b9 : Nat) (w w3 : World) (hwn : wn ≤ 255) (hbn : bn ≤ 255) (h1 : r.L.length ≤ 24) (h2 : r.R.length ≤ 24) (hok : r.ok = true) (hn : r.L.length ≠ 0) (hML : MksAt r.L r.lp w) (hMR : MksAt r.R r.rp w) (n1 : b7 ≠ b8) (n2 : b7 ≠ b9) (n3 : b8 ≠ b9) (n4 : w.heap.size < b7) (n5 : w.heap.size < b8) (n6 : w.heap.size < b9)
    (h7 : Box w3 b7 r.cs 26) (h8 : Box w3 b8 r.cs 26) (h9 : Box w3 b9 r.cs 26) (hB : Box w3 w.heap.size r.cs 26) (hG : Gr w w3) {s0 s4 s5 s6 s10 s11 s12 s13 s14 s15 s16 s17 s18 s19 s20 s21 s22 s23 s24 s25 s26 s27 s28 s29 s30 s31 s32 s33 s34 s35 s36 s37 s38 s39 s40 s41 s42 s43 s44 s45 s46 s47 s48 s49 s50 s51 s52 s53 s54 s55 s56 s57 s58 s59 s60 s61 s62 s63 s64 s65 s66 s67 s68 s69 s70 s71 s72 s73 s74 s75 s76 s77 s78 s79 s80 s81 s82 s83 s84 s85 s86 s87 s88 s89 s90 s91 s92 s93 s94 s95 s96 s97 s98 s99 s100 s101 s102 s103 s104 s105 s106 s107 s108 s109 s110 s111 s112 s113 s114 s115 s116 s117 s118 s119 s120 s121 s122 s123 s124 s125 s126 s127 s128 s129 s130 s131 s132 s133 s134 s135 s136 s137 s138 s139 s140 s141 s142 s143 s144 s145 s146 s147 s148 s149 s150 s151 s152 s153 s154 s155 s156 s157 s158 s159 s160 s161 s162 s163 s164 s165 s166 s167 s168 s169 s170 s171 s172 s173 s174 s175 s176 s177 s178 s179 s180 s181 s182 s183 s184 s185 s186 s187 s188 s189 s190 s191 s192 s193 s194 s195 s196 s197 s198 s199 s200 s201 s202 s203 s204 s205 s206 s207 s208 s209 s210 s211 s212 s213 s214 s215 s216 s217 s218 s219 s220 s221 s222 s223 s224 s225 s226 s227 s228 s229 s230 s231 s232 s233 s234 s235 s236 s237 s238 : Value} :
    (Code.snd1 (Code.snd1 (Code.snd1 (Try.f11.body.getD .skip)))).wp Try.prog (bodyPost Try.prog Try.f11 fun e w' => e = .returned (.bool true) ∧ Below w.heap.size w w') { tmps := #[s0, .int .u8 wn, .int .u8 bn, .pointer (some ⟨w.heap.size, 0, none⟩), s4, s5, s6, .pointer (some ⟨b7, 0, none⟩), .pointer (some ⟨b8, 0, none⟩), .pointer (some ⟨b9, 0, none⟩), s10, s11, s12, s13, s14, s15, s16, s17, s18, s19, s20, s21, s22, s23, s24, s25, s26, s27, s28, s29, s30, s31, s32, s33, s34, s35, s36, s37, s38, s39, s40, s41, s42, s43, s44, s45, s46, s47, s48, s49, s50, s51, s52, s53, s54, s55, s56, s57, s58, s59, s60, s61, s62, s63, s64, s65, s66, s67, s68, s69, s70, s71, s72, s73, s74, s75, s76, s77, s78, s79, s80, s81, s82, s83, s84, s85, s86, s87, s88, s89, s90, s91, s92, s93, s94, s95, s96, s97, s98, s99, s100, s101, s102, s103, s104, s105, s106, s107, s108, s109, s110, s111, s112, s113, s114, s115, s116, s117, s118, s119, s120, s121, s122, s123, s124, s125, s126, s127, s128, s129, s130, s131, s132, s133, s134, s135, s136, s137, s138, s139, s140, s141, s142, s143, s144, s145, s146, s147, s148, s149, s150, s151, s152, s153, s154, s155, s156, s157, s158, s159, s160, s161, s162, s163, s164, s165, s166, s167, s168, s169, s170, s171, s172, s173, s174, s175, s176, s177, s178, s179, s180, s181, s182, s183, s184, s185, s186, s187, s188, s189, s190, s191, s192, s193, s194, s195, s196, s197, s198, s199, s200, s201, s202, s203, s204, s205, s206, s207, s208, s209, s210, s211, s212, s213, s214, s215, s216, s217, s218, s219, s220, s221, s222, s223, s224, s225, s226, s227, s228, s229, s230, s231, s232, s233, s234, s235, s236, s237, s238], defers := [] } w3 := by
  conv => arg 2; whnf
  unfold Rr.cs at h7 h8 h9 hB
  obtain ⟨p1, p2, p3, p4, ⟨p5, p6, p7⟩, p8, p9⟩ := Rr.ok_parts hok
  have HOK := Lib.hid hok
  have HML := Lib.hid hML
  have HMR := Lib.hid hMR
  obtain ⟨x, hx⟩ : ∃ x, r.L[wn % r.L.length]? = some x := ⟨_, List.getElem?_eq_getElem (Nat.mod_lt _ (by omega))⟩
  have HX := Lib.hid hx
  have hxo := p3 x (List.mem_of_getElem? hx)
  unfold Mrk.ok okS at hxo
  simp only [Bool.and_eq_true, decide_eq_true_eq] at hxo
  obtain ⟨⟨xa1, xa2, xa3⟩, xc1, xc2, xc3⟩ := hxo
  obtain ⟨bL, oL, hlp⟩ := mk_at HML.out hx
  have HLP := Lib.hid hlp
  have hid : wn % r.L.length < r.L.length := Nat.mod_lt _ (by omega)
  have hmr : ((wn : Int) % (r.L.length : Int)) = ((wn % r.L.length : Nat) : Int) := by simp
  have H8 := Lib.hid h8
  have H9 := Lib.hid h9
  have HB3 := Lib.hid hB
  have HG3 := Lib.hid hG
  clear hok hML hMR hx hlp p3 p4 hB hG
  have q4 := h7.cell (i := 4) rfl
  have qf := h7.free (i := 4)
  have ql := h7.lt
  have H7 := Lib.hid h7
  clear h7 h8 h9
  obtain ⟨r0, r1, r2, r3, r4⟩ := cells5 HB3.out
  have rl := HB3.out.lt
  obtain ⟨i0, ii0, iz0, iz1, iz2⟩ := infoP info65p
  have II0 := Lib.hid ii0
  have IZ0 := Lib.hid iz0
  have IZ1 := Lib.hid iz1
  have IZ2 := Lib.hid iz2
  have HFL := Lib.hid (mks_flat_len r.L)
  have HONE := Lib.hid (mks_one r.L)
  clear ii0 iz0 iz1 iz2
  go_upto_region 5 with fail
  have hv0 : 0 ≤ (if (bn : Int) % 3 < r.h - 1 then r.h - 1 - (bn : Int) % 3 else 0) ∧ (if (bn : Int) % 3 < r.h - 1 then r.h - 1 - (bn : Int) % 3 else 0) ≤ r.h := by split <;> omega
  generalize (if (bn : Int) % 3 < r.h - 1 then r.h - 1 - (bn : Int) % 3 else 0) = hv at *
  have H7 := Lib.hid (show Box (w3.setCell ⟨b7, 4, none⟩ (.int .i64 hv)) b7 (r.wH hv).cs 26 from H7.out.put 4 (.int .i64 hv))
  have H8 := Lib.hid (H8.out.other (show b8 ≠ b7 by omega) 4 (.int .i64 hv))
  have H9 := Lib.hid (H9.out.other (show b9 ≠ b7 by omega) 4 (.int .i64 hv))
  have HB4 := Lib.hid (HB3.out.other (show w.heap.size ≠ b7 by omega) 4 (.int .i64 hv))
  have HG4 := Lib.hid (show Gr w (w3.setCell ⟨b7, 4, none⟩ (.int .i64 hv)) from Below.setCell HG3.out (show w.heap.size ≤ b7 by omega) _)
  have hs3 : b8 < (w3.setCell ⟨b7, 4, none⟩ (.int .i64 hv)).heap.size := H8.out.lt
  clear q4 qf ql HB3 HG3 r0 r1 r2 r3 r4 rl
  generalize (w3.setCell ⟨b7, 4, none⟩ (.int .i64 hv)) = w4 at *
  have hbs : b7 < w4.heap.size ∧ b8 < w4.heap.size ∧ b9 < w4.heap.size ∧ w.heap.size < w4.heap.size := ⟨H7.out.lt, H8.out.lt, H9.out.lt, HB4.out.lt⟩
  obtain ⟨B3, hB3⟩ : ∃ q, w4.heap.size = q := ⟨_, rfl⟩
  rw [hB3] at hbs
  have HOWN := Lib.hid (show (w4.alloc (.cells #[] 65)).ownsRow B3 65 4 (.slice (some ⟨B3, 0, none⟩) 0 0) 0 [] by have := mks_own_none w4; rwa [hB3] at this)
  have HN := Lib.hid (mks_news (HLP.out ▸ (HML.out.grow (HG4.out.tr (Gr.alloc w4 (.cells #[] 65))))))
  have H7 := Lib.hid (H7.out.grow (Gr.alloc w4 (.cells #[] 65)))
  have H8 := Lib.hid (H8.out.grow (Gr.alloc w4 (.cells #[] 65)))
  have HX8 := H8
  have H9 := Lib.hid (H9.out.grow (Gr.alloc w4 (.cells #[] 65)))
  have HB5 := Lib.hid (HB4.out.grow (Gr.alloc w4 (.cells #[] 65)))
  have HG5 := Lib.hid (show Gr w (w4.alloc (.cells #[] 65)) from HG4.out.tr (Gr.alloc w4 (.cells #[] 65)))
  have hs5 : (w4.alloc (.cells #[] 65)).heap.size = B3 + 1 := by simp; omega
  have r0 := HB4.out.cell (i := 0) rfl
  have rl := HB4.out.lt
  have r0' := HB5.out.cell (i := 0) rfl
  go_wp2_with (first | (at_builtin; refine wpList_append_lies _ rfl _ _ 22 rfl B3 65 i0 _ 4 32 Try.underlying22 II0.out IZ0.out IZ1.out IZ2.out rfl (by decide) _ _ _ rfl HOWN.out ⟨bL, oL, none⟩ r.L.length r.lc (r.L.flatMap Mrk.cs) (by rw [← HLP.out]; rfl) HFL.out HN.out HONE.out ?c1 ?c2 ?c3 ?c4 _ rfl ?_))
  case c1 => omega
  case c2 => unfold maxLen; omega
  case c3 => omega
  case c4 => first | (simp; done) | (simp; omega) | omega
  intro g cap' w5 hown5 hgrow hat hlt
  obtain ⟨hmk, hgb⟩ : MkBox w5 g r.L ∧ (B3 ≤ g ∨ r.L.length = 0) := by
    first
      | exact MkBox.of_own rfl hown5
      | (have := MkBox.of_own (l := r.L) (Nat.zero_add _) hown5; simpa using this)
  have hgB : B3 ≤ g := by omega
  have nb : ∀ b, b < B3 → some b ≠ (Value.slice (some ⟨B3, 0, none⟩) 0 0).ownBlock := fun b hb => by simp [Value.ownBlock]; omega
  have H7 := Lib.hid ((H7.out.gro hgrow (nb b7 (by omega))).other (show b7 ≠ b8 by omega) 0 (.slice (some ⟨g, 0, none⟩) r.L.length cap'))
  have H8 := Lib.hid ((H8.out.gro hgrow (nb b8 (by omega))).put 0 (.slice (some ⟨g, 0, none⟩) r.L.length cap'))
  have H8o := Lib.hid (HX8.out.gro hgrow (nb b8 (by omega)))
  have H9 := Lib.hid ((H9.out.gro hgrow (nb b9 (by omega))).other (show b9 ≠ b8 by omega) 0 (.slice (some ⟨g, 0, none⟩) r.L.length cap'))
  have HB6 := Lib.hid ((HB5.out.gro hgrow (nb w.heap.size (by omega))).other (show w.heap.size ≠ b8 by omega) 0 (.slice (some ⟨g, 0, none⟩) r.L.length cap'))
  have HMK := Lib.hid (hmk.other (show g ≠ b8 by omega) 0 (.slice (some ⟨g, 0, none⟩) r.L.length cap'))
  have HG6 := Lib.hid (show Gr w (w5.setCell ⟨b8, 0, none⟩ (.slice (some ⟨g, 0, none⟩) r.L.length cap')) from (Below.setCell ((show Below w.heap.size w (w4.alloc (.cells #[] 65)) from HG5.out).grown hgrow (by omega) (fun q e => by simp [Value.ownBlock] at e; omega)) (show w.heap.size ≤ b8 by omega) _))
  have q8 := H8o.out.cell (i := 0) rfl
  have q8f := H8o.out.free 0
  have q8l := H8o.out.lt
  clear hown5 hgrow hat hlt hmk hgb nb HOWN HN HFL HONE II0 IZ0 IZ1 IZ2 r0 r0' rl
  go_upto_region 6 with fail
  clear q8 q8f q8l H8o HX8
  generalize (w5.setCell ⟨b8, 0, none⟩ (.slice (some ⟨g, 0, none⟩) r.L.length cap')) = w6 at *
  obtain ⟨r0, r1, r2, r3, r4⟩ := cells5 HB6.out
  have rl := HB6.out.lt
  have q8 := H8.out.cell (i := 0) rfl
  have q8l := H8.out.lt
  obtain ⟨gl, k0, k1, k2, k3⟩ := mk_cells (HMK.out.at (by omega)) HX.out rfl
  have m0 : (0 : Int) ≤ (wn : Int) % (r.L.length : Int) := by omega
  have m1 : (wn : Int) % (r.L.length : Int) < (r.L.length : Int) := by omega
  have m2 : ((wn : Int) % (r.L.length : Int)).toNat = wn % r.L.length := by omega
  clear hmr
  go_region
  go_upto_region 7 with fail
  rename_i KK hKK
  have kf0 := HMK.out.free (wn % r.L.length * 4)
  have kf3 := HMK.out.free (wn % r.L.length * 4 + 3)
  rw [Nat.zero_add] at k0 k1 k2 k3
  have k3' : w6.cell? ⟨g, wn % r.L.length * 4 + 2 + 1, none⟩ = some (.int .i64 x.d) := k3
  have kf3' : w6.frozen? ⟨g, wn % r.L.length * 4 + 2 + 1, none⟩ = false := kf3
  go_region
  have HAV : x.a ≤ (if x.a + (bn : Int) % 7 < x.b then x.a + (bn : Int) % 7 else x.b) ∧ (if x.a + (bn : Int) % 7 < x.b then x.a + (bn : Int) % 7 else x.b) ≤ x.b := by split <;> omega
  have HDV : x.c ≤ (if x.c < x.d - (bn : Int) % 3 then x.d - (bn : Int) % 3 else x.c) ∧ (if x.c < x.d - (bn : Int) % 3 then x.d - (bn : Int) % 3 else x.c) ≤ x.d := by split <;> omega
  generalize (if x.a + (bn : Int) % 7 < x.b then x.a + (bn : Int) % 7 else x.b) = av at *
  generalize (if x.c < x.d - (bn : Int) % 3 then x.d - (bn : Int) % 3 else x.c) = dv at *
  have HMK7 := Lib.hid (HMK.out.put HX.out av dv)
  have H7 := Lib.hid ((H7.out.other (show b7 ≠ g by omega) (wn % r.L.length * 4) (.int .i64 av)).other (show b7 ≠ g by omega) (wn % r.L.length * 4 + 3) (.int .i64 dv))
  have H8 := Lib.hid ((H8.out.other (show b8 ≠ g by omega) (wn % r.L.length * 4) (.int .i64 av)).other (show b8 ≠ g by omega) (wn % r.L.length * 4 + 3) (.int .i64 dv))
  have H9 := Lib.hid ((H9.out.other (show b9 ≠ g by omega) (wn % r.L.length * 4) (.int .i64 av)).other (show b9 ≠ g by omega) (wn % r.L.length * 4 + 3) (.int .i64 dv))
  have HB7 := Lib.hid ((HB6.out.other (show w.heap.size ≠ g by omega) (wn % r.L.length * 4) (.int .i64 av)).other (show w.heap.size ≠ g by omega) (wn % r.L.length * 4 + 3) (.int .i64 dv))
  have HG7 := Lib.hid (show Gr w ((w6.setCell ⟨g, wn % r.L.length * 4, none⟩ (.int .i64 av)).setCell ⟨g, wn % r.L.length * 4 + 3, none⟩ (.int .i64 dv)) from Below.setCell (Below.setCell HG6.out (show w.heap.size ≤ g by omega) _) (show w.heap.size ≤ g by omega) _)
  clear k0 k1 k2 k3 k3' kf0 kf3 kf3' q8 q8l gl r0 r1 r2 r3 r4 rl m0 m1 m2 HMK HG6 HB6
  change (Exit.then _ _) _ _ ((w6.setCell ⟨g, wn % r.L.length * 4, none⟩ (.int .i64 av)).setCell ⟨g, wn % r.L.length * 4 + 3, none⟩ (.int .i64 dv)).drew.drew
  generalize ((w6.setCell ⟨g, wn % r.L.length * 4, none⟩ (.int .i64 av)).setCell ⟨g, wn % r.L.length * 4 + 3, none⟩ (.int .i64 dv)) = w7 at *
  have HDR : Gr w7 w7.drew.drew := (Gr.drew _).tr (Gr.drew _)
  have HMK7 := Lib.hid (HMK7.out.grow HDR)
  have H7 := Lib.hid (H7.out.grow HDR)
  have H8 := Lib.hid (H8.out.grow HDR)
  have H9 := Lib.hid (H9.out.grow HDR)
  have HB := Lib.hid (HB7.out.grow HDR)
  have HG := Lib.hid (HG7.out.tr HDR)
  clear HDR HB7 HG7
  generalize w7.drew.drew = w8 at *
  obtain ⟨r0, r1, r2, r3, r4⟩ := cells5 HB.out
  have rl := HB.out.lt
  have hb9 := H9.out.lt
  exact hKK _ _ (lmore_r8 r (r.wH hv) (r.wL (r.L.set (wn % r.L.length) ⟨av, x.b, x.c, dv⟩) (some ⟨g, 0, none⟩) cap') bn b7 b8 b9 g 0 w w8 hbn HOK.out hn HML.out HMR.out n2 n3 n6 (show g ≠ b9 by omega)
    H7.out (by
      show Box w8 b8 [.slice (some ⟨g, 0, none⟩) (r.L.set (wn % r.L.length) ⟨av, x.b, x.c, dv⟩).length cap', _, _, _, _] 26
      rw [List.length_set]
      exact H8.out) H9.out HB.out HG.out HMK7.out rfl (show (r.L.set (wn % r.L.length) ⟨av, x.b, x.c, dv⟩).length ≤ 1000 by rw [List.length_set]; omega)
    (Rr.wH_nw r hv0.2) (Rr.wH_ok HOK.out hv0.1 hv0.2) ⟨rfl, rfl, rfl, rfl⟩ (Rr.wL_nw HX.out HAV.1 HDV.2 _ _) (Rr.wL_ok HOK.out HX.out HAV.1 HDV.2 HAV.2 HDV.1 _ _) ⟨rfl, rfl⟩)

end Go.Proofs.Ytjlaoiimbhlafaa
