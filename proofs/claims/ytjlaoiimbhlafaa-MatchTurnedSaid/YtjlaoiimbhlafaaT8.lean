import Derived.Test.YtjlaoiimbhlafaaT7
import Derived.Laws.StructEq
import Derived.IntWalk
import Derived.Deep.CutBlock
import Derived.Deep.DeepCutAuto
set_option linter.unusedVariables false
set_option linter.unusedSimpArgs false
namespace Go.Proofs.Ytjlaoiimbhlafaa
open Go.RowKit Go.Shelf

open MW
attribute [local go_sem] Oper.semAt_some run_store_func
attribute [local go_sem] guard55 guard24 neq55 eql24 neq24
attribute [-go_sem] run_eql_struct run_neq_struct
set_option maxRecDepth 100000 in
set_option maxHeartbeats 8000000 in
theorem lturn_copies_zero (r y : Rr) (l lx : List (Nat × Nat)) (nf n ha hb bx by_ : Nat) (w wb : World) (hok : r.ok = true) (hB : Box wb w.heap.size r.cs 26) (hX : Box wb bx r.swap.cs 26) (hY : Box wb by_ y.cs 26) (hG : Gr w wb) (hML : MksAt r.L r.lp w) (hMR : MksAt r.R r.rp w) (hYL : MksAt y.L y.lp wb) (hYR : MksAt y.R y.rp wb) (hln : l.length ≤ 1000) (hf : r.fewest = (l, nf, 4)) (hfx : r.swap.fewest = (lx, nf, 4)) (hcr : r.counted = (n, 0)) (hcx : r.swap.counted = (n, 0)) (hcy : y.counted = (n, 0)) (hhr : r.hides = (ha, hb, 4)) (hhx : r.swap.hides = (hb, ha, 4)) (hkr : r.can = ((List.range (0)).map (fun _ => 0), 4)) (hkx : r.swap.can = ((List.range (0)).map (fun _ => 0), 4)) {s0 s2 s5 s6 s7 s8 s9 s10 s11 s12 s13 s14 s15 s16 s17 s18 s19 s20 s21 s22 s23 s24 s25 s26 s27 s28 s29 s30 s31 s32 s33 s34 s35 s36 s37 s38 s39 s40 s41 s42 s43 s44 s45 s46 s47 s48 s49 s50 s51 s52 s53 s54 s55 s56 s57 s58 s59 s60 s61 s62 s63 s64 s65 s66 s67 s68 s69 s70 s71 s72 s73 s74 s75 s76 s77 s78 s79 s80 s81 s82 s83 s84 s85 s86 s87 s88 s89 s90 s91 s92 s93 s94 s95 s96 s97 s98 s99 s100 s101 s102 s103 s104 s105 s106 s107 s108 s109 s110 s111 s112 s113 s114 s115 s116 s117 s118 s119 s120 s121 s122 s123 s124 s125 s126 s127 s128 s129 s130 s131 s132 s133 s134 s135 s136 s137 s138 s139 s140 s141 s142 s143 s144 s145 s146 s147 s148 s149 s150 s151 s152 s153 s154 s155 s156 s157 s158 s159 s160 s161 s162 s163 s164 s165 s166 s167 s168 s169 s170 s171 s172 s173 s174 s175 s176 s177 s178 s179 s180 s181 s182 s183 s184 s185 s186 s187 s188 s189 s190 s191 s192 s193 s194 s195 s196 s197 s198 s199 s200 s201 s202 s203 s204 s205 s206 s207 s208 s209 s210 s211 s212 s213 s214 s215 s216 s217 s218 s219 s220 s221 s222 s223 s224 s225 s226 s227 s228 s229 s230 s231 s232 s233 s234 s235 s236 s237 s238 s239 s240 s241 s242 s243 s244 s245 s246 s247 s248 s249 s250 s251 s252 s253 s254 s255 s256 s257 s258 s259 s260 s261 s262 s263 s264 s265 s266 s267 s268 s269 s270 s271 s272 s273 s274 s275 s276 s277 s278 s279 s280 s281 s282 s283 s284 s285 s286 s287 s288 s289 s290 s291 s292 s293 s294 : Value} :
    (Code.snd2 (Code.snd2 (Code.snd2 (Code.snd2 (Code.snd2 (Code.snd2 (Try.f12.body.getD .skip))))))).wp Try.prog (bodyPost Try.prog Try.f12 fun e w' => e = .returned (.bool true) ∧ Below w.heap.size w w') { tmps := #[s0, .pointer (some ⟨w.heap.size, 0, none⟩), s2, .pointer (some ⟨bx, 0, none⟩), .pointer (some ⟨by_, 0, none⟩), s5, s6, s7, s8, s9, s10, s11, s12, s13, s14, s15, s16, s17, s18, s19, s20, s21, s22, s23, s24, s25, s26, s27, s28, s29, s30, s31, s32, s33, s34, s35, s36, s37, s38, s39, s40, s41, s42, s43, s44, s45, s46, s47, s48, s49, s50, s51, s52, s53, s54, s55, s56, s57, s58, s59, s60, s61, s62, s63, s64, s65, s66, s67, s68, s69, s70, s71, s72, s73, s74, s75, s76, s77, s78, s79, s80, s81, s82, s83, s84, s85, s86, s87, s88, s89, s90, s91, s92, s93, s94, s95, s96, s97, s98, s99, s100, s101, s102, s103, s104, s105, s106, s107, s108, s109, s110, s111, s112, s113, s114, s115, s116, s117, s118, s119, s120, s121, s122, s123, s124, s125, s126, s127, s128, s129, s130, s131, s132, s133, s134, s135, s136, s137, s138, s139, s140, s141, s142, s143, s144, s145, s146, s147, s148, s149, s150, s151, s152, s153, s154, s155, s156, s157, s158, s159, s160, s161, s162, s163, s164, s165, s166, s167, s168, s169, s170, s171, s172, s173, s174, s175, s176, s177, s178, s179, s180, s181, s182, s183, s184, s185, s186, s187, s188, s189, s190, s191, s192, s193, s194, s195, s196, s197, s198, s199, s200, s201, s202, s203, s204, s205, s206, s207, s208, s209, s210, s211, s212, s213, s214, s215, s216, s217, s218, s219, s220, s221, s222, s223, s224, s225, s226, s227, s228, s229, s230, s231, s232, s233, s234, s235, s236, s237, s238, s239, s240, s241, s242, s243, s244, s245, s246, s247, s248, s249, s250, s251, s252, s253, s254, s255, s256, s257, s258, s259, s260, s261, s262, s263, s264, s265, s266, s267, s268, s269, s270, s271, s272, s273, s274, s275, s276, s277, s278, s279, s280, s281, s282, s283, s284, s285, s286, s287, s288, s289, s290, s291, s292, s293, s294], defers := [] } wb := by
  conv => arg 2; whnf
  have HOK := Lib.hid hok
  have HB := Lib.hid hB
  have HBX := Lib.hid hX
  have HBY := Lib.hid hY
  have HG := Lib.hid hG
  have HML := Lib.hid hML
  have HMR := Lib.hid hMR
  have HYL := Lib.hid hYL
  have HYR := Lib.hid hYR
  have HLN := Lib.hid hln
  have HF := Lib.hid hf
  have HFX := Lib.hid hfx
  have HCR := Lib.hid hcr
  have HCX := Lib.hid hcx
  have HCY := Lib.hid hcy
  have HHR := Lib.hid hhr
  have HHX := Lib.hid hhx
  have HKR := Lib.hid hkr
  have HKX := Lib.hid hkx
  have HMLb := Lib.hid (hML.grow hG)
  have HMRb := Lib.hid (hMR.grow hG)
  clear hok hB hX hY hG hML hMR hYL hYR hf hfx hcr hcx hcy hhr hhx hkr hkx
  unfold Rr.cs at HB
  go_upto_region 7 with fail
  rename_i KK hKK
  have HKK := Lib.hid hKK
  clear hKK
  refine region2 8 ?_ ?_ ?_
  · kernel_rfl
  · kernel_rfl
  simp only [List.take_succ_cons, List.take_zero, List.drop_succ_cons, List.drop_zero]
  refine chain_any (V := (fun v W' => ∃ b, v = .slice (some ⟨b, 0, none⟩) 0 0 ∧ b < W'.heap.size)) (D := []) rfl (by kernel_rfl) (fun v W W' ⟨b, h1, h2⟩ hg => ⟨b, h1, Nat.lt_of_lt_of_le h2 hg.size⟩) ?_ ?_
  · intro ρ W ⟨p1, p2, p3⟩ hG hF K hK; (try simp [FactsD] at hF); have ⟨hc, hf, hz⟩ := bcell (Gr.tr (Gr.drew _) hG); go_simp; exact hK _ (⟨⟨_, rfl, by simp⟩, Gr.alloc _ _⟩)
  apply chain_eq (D := [(1, none)]) rfl (by kernel_rfl)
  · intro ρ W ⟨p1, p2, p3⟩ hG hF K hK; (try simp [FactsD] at hF); have ⟨hc, hf, hz⟩ := bcell (Gr.tr (Gr.drew _) hG); have HBW := HB.out.grow (Gr.tr (Gr.drew _) hG); have z0 := HBW.cell (i := 0) rfl; have z1 := HBW.cell (i := 1) rfl; have zl := HBW.lt; go_simp; exact hK _ (gives_val)
  apply chain_eq (D := [(79, some 0)]) rfl (by kernel_rfl)
  · intro ρ W ⟨p1, p2, p3⟩ hG hF K hK; (try simp [FactsD] at hF); have ⟨hc, hf, hz⟩ := bcell (Gr.tr (Gr.drew _) hG); have HBW := HB.out.grow (Gr.tr (Gr.drew _) hG); have z0 := HBW.cell (i := 0) rfl; have z1 := HBW.cell (i := 1) rfl; have zl := HBW.lt; go_simp; exact hK _ (gives_val)
  refine chain_any (V := (fun v W' => Cp r.L v W')) (D := [(78, some 2), (80, some 0)]) rfl (by kernel_rfl) (fun v W W' h hg => h.grow hg) ?_ ?_
  · intro ρ W ⟨p1, p2, p3⟩ hG hF K hK; (try simp [FactsD] at hF); have ⟨hc, hf, hz⟩ := bcell (Gr.tr (Gr.drew _) hG); obtain ⟨⟨b, hb1, hb2⟩, hb3⟩ := hF; obtain ⟨v', w', hrun, hcp, hgr⟩ := app_marks r.L r.lp r.lc b W (HMLb.out.grow (Gr.tr (Gr.drew _) hG)) hb2 22; simp [execOp, resolve, invoke, builtin, hb1, hb3, hrun, Result.andThen]; exact hK _ (⟨hcp, hgr⟩)
  refine chain_any (V := (fun v W' => ∃ b, v = .slice (some ⟨b, 0, none⟩) 0 0 ∧ b < W'.heap.size)) (D := []) rfl (by kernel_rfl) (fun v W W' ⟨b, h1, h2⟩ hg => ⟨b, h1, Nat.lt_of_lt_of_le h2 hg.size⟩) ?_ ?_
  · intro ρ W ⟨p1, p2, p3⟩ hG hF K hK; (try simp [FactsD] at hF); have ⟨hc, hf, hz⟩ := bcell (Gr.tr (Gr.drew _) hG); go_simp; exact hK _ (⟨⟨_, rfl, by simp⟩, Gr.alloc _ _⟩)
  apply chain_eq (D := [(1, none)]) rfl (by kernel_rfl)
  · intro ρ W ⟨p1, p2, p3⟩ hG hF K hK; (try simp [FactsD] at hF); have ⟨hc, hf, hz⟩ := bcell (Gr.tr (Gr.drew _) hG); have HBW := HB.out.grow (Gr.tr (Gr.drew _) hG); have z0 := HBW.cell (i := 0) rfl; have z1 := HBW.cell (i := 1) rfl; have zl := HBW.lt; go_simp; exact hK _ (gives_val)
  apply chain_eq (D := [(83, some 0)]) rfl (by kernel_rfl)
  · intro ρ W ⟨p1, p2, p3⟩ hG hF K hK; (try simp [FactsD] at hF); have ⟨hc, hf, hz⟩ := bcell (Gr.tr (Gr.drew _) hG); have HBW := HB.out.grow (Gr.tr (Gr.drew _) hG); have z0 := HBW.cell (i := 0) rfl; have z1 := HBW.cell (i := 1) rfl; have zl := HBW.lt; go_simp; exact hK _ (gives_val)
  refine chain_any (V := (fun v W' => Cp r.R v W')) (D := [(82, some 2), (84, some 0)]) rfl (by kernel_rfl) (fun v W W' h hg => h.grow hg) ?_ ?_
  · intro ρ W ⟨p1, p2, p3⟩ hG hF K hK; (try simp [FactsD] at hF); have ⟨hc, hf, hz⟩ := bcell (Gr.tr (Gr.drew _) hG); obtain ⟨⟨b, hb1, hb2⟩, hb3⟩ := hF; obtain ⟨v', w', hrun, hcp, hgr⟩ := app_marks r.R r.rp r.rc b W (HMRb.out.grow (Gr.tr (Gr.drew _) hG)) hb2 22; simp [execOp, resolve, invoke, builtin, hb1, hb3, hrun, Result.andThen]; exact hK _ (⟨hcp, hgr⟩)
  refine chain_done ?_
  intro vs W hG hV
  obtain ⟨e7, -, -, -, e3, -⟩ := hV
  simp only [Nat.reduceSub] at e3
  simp only [Nat.reduceSub] at e7
  simp only [lay, Act.put, List.getElem?_toArray, List.getElem?_cons_succ, List.getElem?_cons_zero, Option.bind_some, List.setIfInBounds_toArray, List.set_cons_succ, List.set_cons_zero]
  generalize vs 0 = v0
  generalize vs 1 = v1
  generalize vs 2 = v2
  generalize vs 3 = v3 at *
  generalize vs 4 = v4
  generalize vs 5 = v5
  generalize vs 6 = v6
  generalize vs 7 = v7 at *
  obtain ⟨hc, hf, hz⟩ := bcell hG
  have HGW := Lib.hid (show Gr wb W from hG)
  obtain ⟨pl, cl, rfl, hcl, hbl⟩ := e3
  obtain ⟨pr, cr, rfl, hcr, hbr⟩ := e7
  have HCL := Lib.hid hcl
  have HCRR := Lib.hid hcr
  have HBL := Lib.hid hbl
  have HBR := Lib.hid hbr
  clear hcl hcr hbl hbr hc hf hz hG
  go_wp2_with fail
  exact HKK.out _ _ (lturn_calls_zero r y l lx nf n ha hb bx by_ pl pr cl cr w W HOK.out (HB.out.grow HGW.out) (HBX.out.grow HGW.out) (HBY.out.grow HGW.out) (HG.out.tr HGW.out) HML.out HMR.out (HYL.out.grow HGW.out) (HYR.out.grow HGW.out) HCL.out HCRR.out HLN.out HF.out HFX.out HCR.out HCX.out HCY.out HHR.out HHX.out HKR.out HKX.out HBL.out HBR.out)
set_option maxRecDepth 100000 in
set_option maxHeartbeats 8000000 in
theorem lturn_copies_yes (r y : Rr) (l lx : List (Nat × Nat)) (nf n ha hb bx by_ : Nat) (w wb : World) (hok : r.ok = true) (hB : Box wb w.heap.size r.cs 26) (hX : Box wb bx r.swap.cs 26) (hY : Box wb by_ y.cs 26) (hG : Gr w wb) (hML : MksAt r.L r.lp w) (hMR : MksAt r.R r.rp w) (hYL : MksAt y.L y.lp wb) (hYR : MksAt y.R y.rp wb) (hln : l.length ≤ 1000) (hf : r.fewest = (l, nf, 0)) (hfx : r.swap.fewest = (lx, nf, 0)) (hcr : r.counted = (n, 0)) (hcx : r.swap.counted = (n, 0)) (hcy : y.counted = (n, 0)) (hhr : r.hides = (ha, hb, 0)) (hhx : r.swap.hides = (hb, ha, 0)) (hkr : r.can = ((List.range (r.L.length)).map (fun j => (r.lkd.ptn j : Int)), 0)) (hkx : r.swap.can = ((List.range (r.R.length)).map (fun j => (r.swap.lkd.ptn j : Int)), 0)) {s0 s2 s5 s6 s7 s8 s9 s10 s11 s12 s13 s14 s15 s16 s17 s18 s19 s20 s21 s22 s23 s24 s25 s26 s27 s28 s29 s30 s31 s32 s33 s34 s35 s36 s37 s38 s39 s40 s41 s42 s43 s44 s45 s46 s47 s48 s49 s50 s51 s52 s53 s54 s55 s56 s57 s58 s59 s60 s61 s62 s63 s64 s65 s66 s67 s68 s69 s70 s71 s72 s73 s74 s75 s76 s77 s78 s79 s80 s81 s82 s83 s84 s85 s86 s87 s88 s89 s90 s91 s92 s93 s94 s95 s96 s97 s98 s99 s100 s101 s102 s103 s104 s105 s106 s107 s108 s109 s110 s111 s112 s113 s114 s115 s116 s117 s118 s119 s120 s121 s122 s123 s124 s125 s126 s127 s128 s129 s130 s131 s132 s133 s134 s135 s136 s137 s138 s139 s140 s141 s142 s143 s144 s145 s146 s147 s148 s149 s150 s151 s152 s153 s154 s155 s156 s157 s158 s159 s160 s161 s162 s163 s164 s165 s166 s167 s168 s169 s170 s171 s172 s173 s174 s175 s176 s177 s178 s179 s180 s181 s182 s183 s184 s185 s186 s187 s188 s189 s190 s191 s192 s193 s194 s195 s196 s197 s198 s199 s200 s201 s202 s203 s204 s205 s206 s207 s208 s209 s210 s211 s212 s213 s214 s215 s216 s217 s218 s219 s220 s221 s222 s223 s224 s225 s226 s227 s228 s229 s230 s231 s232 s233 s234 s235 s236 s237 s238 s239 s240 s241 s242 s243 s244 s245 s246 s247 s248 s249 s250 s251 s252 s253 s254 s255 s256 s257 s258 s259 s260 s261 s262 s263 s264 s265 s266 s267 s268 s269 s270 s271 s272 s273 s274 s275 s276 s277 s278 s279 s280 s281 s282 s283 s284 s285 s286 s287 s288 s289 s290 s291 s292 s293 s294 : Value} :
    (Code.snd2 (Code.snd2 (Code.snd2 (Code.snd2 (Code.snd2 (Code.snd2 (Try.f12.body.getD .skip))))))).wp Try.prog (bodyPost Try.prog Try.f12 fun e w' => e = .returned (.bool true) ∧ Below w.heap.size w w') { tmps := #[s0, .pointer (some ⟨w.heap.size, 0, none⟩), s2, .pointer (some ⟨bx, 0, none⟩), .pointer (some ⟨by_, 0, none⟩), s5, s6, s7, s8, s9, s10, s11, s12, s13, s14, s15, s16, s17, s18, s19, s20, s21, s22, s23, s24, s25, s26, s27, s28, s29, s30, s31, s32, s33, s34, s35, s36, s37, s38, s39, s40, s41, s42, s43, s44, s45, s46, s47, s48, s49, s50, s51, s52, s53, s54, s55, s56, s57, s58, s59, s60, s61, s62, s63, s64, s65, s66, s67, s68, s69, s70, s71, s72, s73, s74, s75, s76, s77, s78, s79, s80, s81, s82, s83, s84, s85, s86, s87, s88, s89, s90, s91, s92, s93, s94, s95, s96, s97, s98, s99, s100, s101, s102, s103, s104, s105, s106, s107, s108, s109, s110, s111, s112, s113, s114, s115, s116, s117, s118, s119, s120, s121, s122, s123, s124, s125, s126, s127, s128, s129, s130, s131, s132, s133, s134, s135, s136, s137, s138, s139, s140, s141, s142, s143, s144, s145, s146, s147, s148, s149, s150, s151, s152, s153, s154, s155, s156, s157, s158, s159, s160, s161, s162, s163, s164, s165, s166, s167, s168, s169, s170, s171, s172, s173, s174, s175, s176, s177, s178, s179, s180, s181, s182, s183, s184, s185, s186, s187, s188, s189, s190, s191, s192, s193, s194, s195, s196, s197, s198, s199, s200, s201, s202, s203, s204, s205, s206, s207, s208, s209, s210, s211, s212, s213, s214, s215, s216, s217, s218, s219, s220, s221, s222, s223, s224, s225, s226, s227, s228, s229, s230, s231, s232, s233, s234, s235, s236, s237, s238, s239, s240, s241, s242, s243, s244, s245, s246, s247, s248, s249, s250, s251, s252, s253, s254, s255, s256, s257, s258, s259, s260, s261, s262, s263, s264, s265, s266, s267, s268, s269, s270, s271, s272, s273, s274, s275, s276, s277, s278, s279, s280, s281, s282, s283, s284, s285, s286, s287, s288, s289, s290, s291, s292, s293, s294], defers := [] } wb := by
  conv => arg 2; whnf
  have HOK := Lib.hid hok
  have HB := Lib.hid hB
  have HBX := Lib.hid hX
  have HBY := Lib.hid hY
  have HG := Lib.hid hG
  have HML := Lib.hid hML
  have HMR := Lib.hid hMR
  have HYL := Lib.hid hYL
  have HYR := Lib.hid hYR
  have HLN := Lib.hid hln
  have HF := Lib.hid hf
  have HFX := Lib.hid hfx
  have HCR := Lib.hid hcr
  have HCX := Lib.hid hcx
  have HCY := Lib.hid hcy
  have HHR := Lib.hid hhr
  have HHX := Lib.hid hhx
  have HKR := Lib.hid hkr
  have HKX := Lib.hid hkx
  have HMLb := Lib.hid (hML.grow hG)
  have HMRb := Lib.hid (hMR.grow hG)
  clear hok hB hX hY hG hML hMR hYL hYR hf hfx hcr hcx hcy hhr hhx hkr hkx
  unfold Rr.cs at HB
  go_upto_region 7 with fail
  rename_i KK hKK
  have HKK := Lib.hid hKK
  clear hKK
  refine region2 8 ?_ ?_ ?_
  · kernel_rfl
  · kernel_rfl
  simp only [List.take_succ_cons, List.take_zero, List.drop_succ_cons, List.drop_zero]
  refine chain_any (V := (fun v W' => ∃ b, v = .slice (some ⟨b, 0, none⟩) 0 0 ∧ b < W'.heap.size)) (D := []) rfl (by kernel_rfl) (fun v W W' ⟨b, h1, h2⟩ hg => ⟨b, h1, Nat.lt_of_lt_of_le h2 hg.size⟩) ?_ ?_
  · intro ρ W ⟨p1, p2, p3⟩ hG hF K hK; (try simp [FactsD] at hF); have ⟨hc, hf, hz⟩ := bcell (Gr.tr (Gr.drew _) hG); go_simp; exact hK _ (⟨⟨_, rfl, by simp⟩, Gr.alloc _ _⟩)
  apply chain_eq (D := [(1, none)]) rfl (by kernel_rfl)
  · intro ρ W ⟨p1, p2, p3⟩ hG hF K hK; (try simp [FactsD] at hF); have ⟨hc, hf, hz⟩ := bcell (Gr.tr (Gr.drew _) hG); have HBW := HB.out.grow (Gr.tr (Gr.drew _) hG); have z0 := HBW.cell (i := 0) rfl; have z1 := HBW.cell (i := 1) rfl; have zl := HBW.lt; go_simp; exact hK _ (gives_val)
  apply chain_eq (D := [(79, some 0)]) rfl (by kernel_rfl)
  · intro ρ W ⟨p1, p2, p3⟩ hG hF K hK; (try simp [FactsD] at hF); have ⟨hc, hf, hz⟩ := bcell (Gr.tr (Gr.drew _) hG); have HBW := HB.out.grow (Gr.tr (Gr.drew _) hG); have z0 := HBW.cell (i := 0) rfl; have z1 := HBW.cell (i := 1) rfl; have zl := HBW.lt; go_simp; exact hK _ (gives_val)
  refine chain_any (V := (fun v W' => Cp r.L v W')) (D := [(78, some 2), (80, some 0)]) rfl (by kernel_rfl) (fun v W W' h hg => h.grow hg) ?_ ?_
  · intro ρ W ⟨p1, p2, p3⟩ hG hF K hK; (try simp [FactsD] at hF); have ⟨hc, hf, hz⟩ := bcell (Gr.tr (Gr.drew _) hG); obtain ⟨⟨b, hb1, hb2⟩, hb3⟩ := hF; obtain ⟨v', w', hrun, hcp, hgr⟩ := app_marks r.L r.lp r.lc b W (HMLb.out.grow (Gr.tr (Gr.drew _) hG)) hb2 22; simp [execOp, resolve, invoke, builtin, hb1, hb3, hrun, Result.andThen]; exact hK _ (⟨hcp, hgr⟩)
  refine chain_any (V := (fun v W' => ∃ b, v = .slice (some ⟨b, 0, none⟩) 0 0 ∧ b < W'.heap.size)) (D := []) rfl (by kernel_rfl) (fun v W W' ⟨b, h1, h2⟩ hg => ⟨b, h1, Nat.lt_of_lt_of_le h2 hg.size⟩) ?_ ?_
  · intro ρ W ⟨p1, p2, p3⟩ hG hF K hK; (try simp [FactsD] at hF); have ⟨hc, hf, hz⟩ := bcell (Gr.tr (Gr.drew _) hG); go_simp; exact hK _ (⟨⟨_, rfl, by simp⟩, Gr.alloc _ _⟩)
  apply chain_eq (D := [(1, none)]) rfl (by kernel_rfl)
  · intro ρ W ⟨p1, p2, p3⟩ hG hF K hK; (try simp [FactsD] at hF); have ⟨hc, hf, hz⟩ := bcell (Gr.tr (Gr.drew _) hG); have HBW := HB.out.grow (Gr.tr (Gr.drew _) hG); have z0 := HBW.cell (i := 0) rfl; have z1 := HBW.cell (i := 1) rfl; have zl := HBW.lt; go_simp; exact hK _ (gives_val)
  apply chain_eq (D := [(83, some 0)]) rfl (by kernel_rfl)
  · intro ρ W ⟨p1, p2, p3⟩ hG hF K hK; (try simp [FactsD] at hF); have ⟨hc, hf, hz⟩ := bcell (Gr.tr (Gr.drew _) hG); have HBW := HB.out.grow (Gr.tr (Gr.drew _) hG); have z0 := HBW.cell (i := 0) rfl; have z1 := HBW.cell (i := 1) rfl; have zl := HBW.lt; go_simp; exact hK _ (gives_val)
  refine chain_any (V := (fun v W' => Cp r.R v W')) (D := [(82, some 2), (84, some 0)]) rfl (by kernel_rfl) (fun v W W' h hg => h.grow hg) ?_ ?_
  · intro ρ W ⟨p1, p2, p3⟩ hG hF K hK; (try simp [FactsD] at hF); have ⟨hc, hf, hz⟩ := bcell (Gr.tr (Gr.drew _) hG); obtain ⟨⟨b, hb1, hb2⟩, hb3⟩ := hF; obtain ⟨v', w', hrun, hcp, hgr⟩ := app_marks r.R r.rp r.rc b W (HMRb.out.grow (Gr.tr (Gr.drew _) hG)) hb2 22; simp [execOp, resolve, invoke, builtin, hb1, hb3, hrun, Result.andThen]; exact hK _ (⟨hcp, hgr⟩)
  refine chain_done ?_
  intro vs W hG hV
  obtain ⟨e7, -, -, -, e3, -⟩ := hV
  simp only [Nat.reduceSub] at e3
  simp only [Nat.reduceSub] at e7
  simp only [lay, Act.put, List.getElem?_toArray, List.getElem?_cons_succ, List.getElem?_cons_zero, Option.bind_some, List.setIfInBounds_toArray, List.set_cons_succ, List.set_cons_zero]
  generalize vs 0 = v0
  generalize vs 1 = v1
  generalize vs 2 = v2
  generalize vs 3 = v3 at *
  generalize vs 4 = v4
  generalize vs 5 = v5
  generalize vs 6 = v6
  generalize vs 7 = v7 at *
  obtain ⟨hc, hf, hz⟩ := bcell hG
  have HGW := Lib.hid (show Gr wb W from hG)
  obtain ⟨pl, cl, rfl, hcl, hbl⟩ := e3
  obtain ⟨pr, cr, rfl, hcr, hbr⟩ := e7
  have HCL := Lib.hid hcl
  have HCRR := Lib.hid hcr
  have HBL := Lib.hid hbl
  have HBR := Lib.hid hbr
  clear hcl hcr hbl hbr hc hf hz hG
  go_wp2_with fail
  exact HKK.out _ _ (lturn_calls_yes r y l lx nf n ha hb bx by_ pl pr cl cr w W HOK.out (HB.out.grow HGW.out) (HBX.out.grow HGW.out) (HBY.out.grow HGW.out) (HG.out.tr HGW.out) HML.out HMR.out (HYL.out.grow HGW.out) (HYR.out.grow HGW.out) HCL.out HCRR.out HLN.out HF.out HFX.out HCR.out HCX.out HCY.out HHR.out HHX.out HKR.out HKX.out HBL.out HBR.out)

end Go.Proofs.Ytjlaoiimbhlafaa
