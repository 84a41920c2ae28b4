import Derived.Test.YtjlaoiimbhlafaaT9
import Derived.Laws.StructEq
import Derived.Deep.RegionHeld3
set_option linter.unusedVariables false
set_option linter.unusedSimpArgs false
namespace Go.Proofs.Ytjlaoiimbhlafaa
open Go.RowKit Go.Shelf

open MW
attribute [local go_sem] Oper.semAt_some run_store_func
attribute [local go_sem ↓] Go.wp_at_zero Go.wp_at_succ
attribute [local go_sem] guard55 guard24 neq55 eql24 neq24
attribute [-go_sem] run_eql_struct run_neq_struct
set_option maxRecDepth 100000 in
set_option maxHeartbeats 8000000 in
theorem lturn_y_zero (r : Rr) (l lx : List (Nat × Nat)) (nf n ha hb bx : Nat) (w wb : World) (hok : r.ok = true) (hB : Box wb w.heap.size r.cs 26) (hX : Box wb bx r.swap.cs 26) (n1 : w.heap.size < bx) (hG : Gr w wb) (hML : MksAt r.L r.lp w) (hMR : MksAt r.R r.rp w) (hln : l.length ≤ 1000) (hf : r.fewest = (l, nf, 4)) (hfx : r.swap.fewest = (lx, nf, 4)) (hcr : r.counted = (n, 0)) (hcx : r.swap.counted = (n, 0)) (hcy : ∀ q c q2 c2, (r.mirror q c q2 c2).counted = (n, 0)) (hhr : r.hides = (ha, hb, 4)) (hhx : r.swap.hides = (hb, ha, 4)) (hkr : r.can = ((List.range (0)).map (fun _ => 0), 4)) (hkx : r.swap.can = ((List.range (0)).map (fun _ => 0), 4)) (t10 : r.L.length ≤ 10 ∧ r.R.length ≤ 10) (oL : ∀ m ∈ r.L, m.ok = true) (oR : ∀ m ∈ r.R, m.ok = true) {s0 s2 s4 s5 s6 s7 s8 s9 s10 s11 s12 s13 s14 s15 s16 s17 s18 s19 s20 s21 s22 s23 s24 s25 s26 s27 s28 s29 s30 s31 s32 s33 s34 s35 s36 s37 s38 s39 s40 s41 s42 s43 s44 s45 s46 s47 s48 s49 s50 s51 s52 s53 s54 s55 s56 s57 s58 s59 s60 s61 s62 s63 s64 s65 s66 s67 s68 s69 s70 s71 s72 s73 s74 s75 s76 s77 s78 s79 s80 s81 s82 s83 s84 s85 s86 s87 s88 s89 s90 s91 s92 s93 s94 s95 s96 s97 s98 s99 s100 s101 s102 s103 s104 s105 s106 s107 s108 s109 s110 s111 s112 s113 s114 s115 s116 s117 s118 s119 s120 s121 s122 s123 s124 s125 s126 s127 s128 s129 s130 s131 s132 s133 s134 s135 s136 s137 s138 s139 s140 s141 s142 s143 s144 s145 s146 s147 s148 s149 s150 s151 s152 s153 s154 s155 s156 s157 s158 s159 s160 s161 s162 s163 s164 s165 s166 s167 s168 s169 s170 s171 s172 s173 s174 s175 s176 s177 s178 s179 s180 s181 s182 s183 s184 s185 s186 s187 s188 s189 s190 s191 s192 s193 s194 s195 s196 s197 s198 s199 s200 s201 s202 s203 s204 s205 s206 s207 s208 s209 s210 s211 s212 s213 s214 s215 s216 s217 s218 s219 s220 s221 s222 s223 s224 s225 s226 s227 s228 s229 s230 s231 s232 s233 s234 s235 s236 s237 s238 s239 s240 s241 s242 s243 s244 s245 s246 s247 s248 s249 s250 s251 s252 s253 s254 s255 s256 s257 s258 s259 s260 s261 s262 s263 s264 s265 s266 s267 s268 s269 s270 s271 s272 s273 s274 s275 s276 s277 s278 s279 s280 s281 s282 s283 s284 s285 s286 s287 s288 s289 s290 s291 s292 s293 s294 : Value} :
    (Code.snd2 (Code.snd2 (Code.snd2 (Try.f12.body.getD .skip)))).wp Try.prog (bodyPost Try.prog Try.f12 fun e w' => e = .returned (.bool true) ∧ Below w.heap.size w w') { tmps := #[s0, .pointer (some ⟨w.heap.size, 0, none⟩), s2, .pointer (some ⟨bx, 0, none⟩), s4, s5, s6, s7, s8, s9, s10, s11, s12, s13, s14, s15, s16, s17, s18, s19, s20, s21, s22, s23, s24, s25, s26, s27, s28, s29, s30, s31, s32, s33, s34, s35, s36, s37, s38, s39, s40, s41, s42, s43, s44, s45, s46, s47, s48, s49, s50, s51, s52, s53, s54, s55, s56, s57, s58, s59, s60, s61, s62, s63, s64, s65, s66, s67, s68, s69, s70, s71, s72, s73, s74, s75, s76, s77, s78, s79, s80, s81, s82, s83, s84, s85, s86, s87, s88, s89, s90, s91, s92, s93, s94, s95, s96, s97, s98, s99, s100, s101, s102, s103, s104, s105, s106, s107, s108, s109, s110, s111, s112, s113, s114, s115, s116, s117, s118, s119, s120, s121, s122, s123, s124, s125, s126, s127, s128, s129, s130, s131, s132, s133, s134, s135, s136, s137, s138, s139, s140, s141, s142, s143, s144, s145, s146, s147, s148, s149, s150, s151, s152, s153, s154, s155, s156, s157, s158, s159, s160, s161, s162, s163, s164, s165, s166, s167, s168, s169, s170, s171, s172, s173, s174, s175, s176, s177, s178, s179, s180, s181, s182, s183, s184, s185, s186, s187, s188, s189, s190, s191, s192, s193, s194, s195, s196, s197, s198, s199, s200, s201, s202, s203, s204, s205, s206, s207, s208, s209, s210, s211, s212, s213, s214, s215, s216, s217, s218, s219, s220, s221, s222, s223, s224, s225, s226, s227, s228, s229, s230, s231, s232, s233, s234, s235, s236, s237, s238, s239, s240, s241, s242, s243, s244, s245, s246, s247, s248, s249, s250, s251, s252, s253, s254, s255, s256, s257, s258, s259, s260, s261, s262, s263, s264, s265, s266, s267, s268, s269, s270, s271, s272, s273, s274, s275, s276, s277, s278, s279, s280, s281, s282, s283, s284, s285, s286, s287, s288, s289, s290, s291, s292, s293, s294], defers := [] } wb := by
  conv => arg 2; whnf
  have HOK := Lib.hid hok
  have HB := Lib.hid hB
  have HBX := Lib.hid hX
  have HG := Lib.hid hG
  have HML := Lib.hid hML
  have HMR := Lib.hid hMR
  have HLN := Lib.hid hln
  have HF := Lib.hid hf
  have HFX := Lib.hid hfx
  have HCR := Lib.hid hcr
  have HCX := Lib.hid hcx
  have HCY := Lib.hid hcy
  have HHR := Lib.hid hhr
  have HHX := Lib.hid hhx
  have HKR := Lib.hid hkr
  have HKX := Lib.hid hkx
  have HT := Lib.hid t10
  have HOL := Lib.hid oL
  have HOR := Lib.hid oR
  clear hok hB hX hG hML hMR hln hf hfx hcr hcx hcy hhr hhx hkr hkx t10 oL oR
  unfold Rr.cs at HB
  have HBX := Lib.hid (show Box wb bx [.slice r.rp r.R.length r.rc, .slice r.lp r.L.length r.lc, .int .i64 (-r.t), .int .i64 (-r.s), .int .i64 r.h] 26 from HBX.out)
  obtain ⟨r0, r1, r2, r3, r4⟩ := cells5 HB.out
  have rl := HB.out.lt
  obtain ⟨x0, x1, x2, x3, x4⟩ := cells5 HBX.out
  have xl := HBX.out.lt
  have HY := Lib.hid (Box.fresh wb [.slice none 0 0, .slice none 0 0, .int .i64 (-r.t), .int .i64 (-r.s), .int .i64 r.h] 26)
  have HGW := Lib.hid (Gr.alloc wb (Obj.cells #[.slice none 0 0, .slice none 0 0, .int .i64 (-r.t), .int .i64 (-r.s), .int .i64 r.h] 26))
  apply wp_seq_k
  intro K1 hK1
  have HK1 := Lib.hid hK1
  clear hK1
  go_wp2_with fail
  refine HK1.out _ _ ?_
  clear HK1
  apply wp_seq_k
  intro K2 hK2
  have HK2 := Lib.hid hK2
  clear hK2
  go_wp2_with fail
  exact HK2.out _ _ (lturn_mirs_zero r l lx nf n ha hb bx wb.heap.size w _ HOK.out (HB.out.grow HGW.out) (HBX.out.grow HGW.out) HY.out n1 xl (HG.out.tr HGW.out) HML.out HMR.out HLN.out HF.out HFX.out HCR.out HCX.out HCY.out HHR.out HHX.out HKR.out HKX.out HT.out HOL.out HOR.out)
set_option maxRecDepth 100000 in
set_option maxHeartbeats 8000000 in
theorem lturn_y_yes (r : Rr) (l lx : List (Nat × Nat)) (nf n ha hb bx : Nat) (w wb : World) (hok : r.ok = true) (hB : Box wb w.heap.size r.cs 26) (hX : Box wb bx r.swap.cs 26) (n1 : w.heap.size < bx) (hG : Gr w wb) (hML : MksAt r.L r.lp w) (hMR : MksAt r.R r.rp w) (hln : l.length ≤ 1000) (hf : r.fewest = (l, nf, 0)) (hfx : r.swap.fewest = (lx, nf, 0)) (hcr : r.counted = (n, 0)) (hcx : r.swap.counted = (n, 0)) (hcy : ∀ q c q2 c2, (r.mirror q c q2 c2).counted = (n, 0)) (hhr : r.hides = (ha, hb, 0)) (hhx : r.swap.hides = (hb, ha, 0)) (hkr : r.can = ((List.range (r.L.length)).map (fun j => (r.lkd.ptn j : Int)), 0)) (hkx : r.swap.can = ((List.range (r.R.length)).map (fun j => (r.swap.lkd.ptn j : Int)), 0)) (t10 : r.L.length ≤ 10 ∧ r.R.length ≤ 10) (oL : ∀ m ∈ r.L, m.ok = true) (oR : ∀ m ∈ r.R, m.ok = true) {s0 s2 s4 s5 s6 s7 s8 s9 s10 s11 s12 s13 s14 s15 s16 s17 s18 s19 s20 s21 s22 s23 s24 s25 s26 s27 s28 s29 s30 s31 s32 s33 s34 s35 s36 s37 s38 s39 s40 s41 s42 s43 s44 s45 s46 s47 s48 s49 s50 s51 s52 s53 s54 s55 s56 s57 s58 s59 s60 s61 s62 s63 s64 s65 s66 s67 s68 s69 s70 s71 s72 s73 s74 s75 s76 s77 s78 s79 s80 s81 s82 s83 s84 s85 s86 s87 s88 s89 s90 s91 s92 s93 s94 s95 s96 s97 s98 s99 s100 s101 s102 s103 s104 s105 s106 s107 s108 s109 s110 s111 s112 s113 s114 s115 s116 s117 s118 s119 s120 s121 s122 s123 s124 s125 s126 s127 s128 s129 s130 s131 s132 s133 s134 s135 s136 s137 s138 s139 s140 s141 s142 s143 s144 s145 s146 s147 s148 s149 s150 s151 s152 s153 s154 s155 s156 s157 s158 s159 s160 s161 s162 s163 s164 s165 s166 s167 s168 s169 s170 s171 s172 s173 s174 s175 s176 s177 s178 s179 s180 s181 s182 s183 s184 s185 s186 s187 s188 s189 s190 s191 s192 s193 s194 s195 s196 s197 s198 s199 s200 s201 s202 s203 s204 s205 s206 s207 s208 s209 s210 s211 s212 s213 s214 s215 s216 s217 s218 s219 s220 s221 s222 s223 s224 s225 s226 s227 s228 s229 s230 s231 s232 s233 s234 s235 s236 s237 s238 s239 s240 s241 s242 s243 s244 s245 s246 s247 s248 s249 s250 s251 s252 s253 s254 s255 s256 s257 s258 s259 s260 s261 s262 s263 s264 s265 s266 s267 s268 s269 s270 s271 s272 s273 s274 s275 s276 s277 s278 s279 s280 s281 s282 s283 s284 s285 s286 s287 s288 s289 s290 s291 s292 s293 s294 : Value} :
    (Code.snd2 (Code.snd2 (Code.snd2 (Try.f12.body.getD .skip)))).wp Try.prog (bodyPost Try.prog Try.f12 fun e w' => e = .returned (.bool true) ∧ Below w.heap.size w w') { tmps := #[s0, .pointer (some ⟨w.heap.size, 0, none⟩), s2, .pointer (some ⟨bx, 0, none⟩), s4, s5, s6, s7, s8, s9, s10, s11, s12, s13, s14, s15, s16, s17, s18, s19, s20, s21, s22, s23, s24, s25, s26, s27, s28, s29, s30, s31, s32, s33, s34, s35, s36, s37, s38, s39, s40, s41, s42, s43, s44, s45, s46, s47, s48, s49, s50, s51, s52, s53, s54, s55, s56, s57, s58, s59, s60, s61, s62, s63, s64, s65, s66, s67, s68, s69, s70, s71, s72, s73, s74, s75, s76, s77, s78, s79, s80, s81, s82, s83, s84, s85, s86, s87, s88, s89, s90, s91, s92, s93, s94, s95, s96, s97, s98, s99, s100, s101, s102, s103, s104, s105, s106, s107, s108, s109, s110, s111, s112, s113, s114, s115, s116, s117, s118, s119, s120, s121, s122, s123, s124, s125, s126, s127, s128, s129, s130, s131, s132, s133, s134, s135, s136, s137, s138, s139, s140, s141, s142, s143, s144, s145, s146, s147, s148, s149, s150, s151, s152, s153, s154, s155, s156, s157, s158, s159, s160, s161, s162, s163, s164, s165, s166, s167, s168, s169, s170, s171, s172, s173, s174, s175, s176, s177, s178, s179, s180, s181, s182, s183, s184, s185, s186, s187, s188, s189, s190, s191, s192, s193, s194, s195, s196, s197, s198, s199, s200, s201, s202, s203, s204, s205, s206, s207, s208, s209, s210, s211, s212, s213, s214, s215, s216, s217, s218, s219, s220, s221, s222, s223, s224, s225, s226, s227, s228, s229, s230, s231, s232, s233, s234, s235, s236, s237, s238, s239, s240, s241, s242, s243, s244, s245, s246, s247, s248, s249, s250, s251, s252, s253, s254, s255, s256, s257, s258, s259, s260, s261, s262, s263, s264, s265, s266, s267, s268, s269, s270, s271, s272, s273, s274, s275, s276, s277, s278, s279, s280, s281, s282, s283, s284, s285, s286, s287, s288, s289, s290, s291, s292, s293, s294], defers := [] } wb := by
  conv => arg 2; whnf
  have HOK := Lib.hid hok
  have HB := Lib.hid hB
  have HBX := Lib.hid hX
  have HG := Lib.hid hG
  have HML := Lib.hid hML
  have HMR := Lib.hid hMR
  have HLN := Lib.hid hln
  have HF := Lib.hid hf
  have HFX := Lib.hid hfx
  have HCR := Lib.hid hcr
  have HCX := Lib.hid hcx
  have HCY := Lib.hid hcy
  have HHR := Lib.hid hhr
  have HHX := Lib.hid hhx
  have HKR := Lib.hid hkr
  have HKX := Lib.hid hkx
  have HT := Lib.hid t10
  have HOL := Lib.hid oL
  have HOR := Lib.hid oR
  clear hok hB hX hG hML hMR hln hf hfx hcr hcx hcy hhr hhx hkr hkx t10 oL oR
  unfold Rr.cs at HB
  have HBX := Lib.hid (show Box wb bx [.slice r.rp r.R.length r.rc, .slice r.lp r.L.length r.lc, .int .i64 (-r.t), .int .i64 (-r.s), .int .i64 r.h] 26 from HBX.out)
  obtain ⟨r0, r1, r2, r3, r4⟩ := cells5 HB.out
  have rl := HB.out.lt
  obtain ⟨x0, x1, x2, x3, x4⟩ := cells5 HBX.out
  have xl := HBX.out.lt
  have HY := Lib.hid (Box.fresh wb [.slice none 0 0, .slice none 0 0, .int .i64 (-r.t), .int .i64 (-r.s), .int .i64 r.h] 26)
  have HGW := Lib.hid (Gr.alloc wb (Obj.cells #[.slice none 0 0, .slice none 0 0, .int .i64 (-r.t), .int .i64 (-r.s), .int .i64 r.h] 26))
  apply wp_seq_k
  intro K1 hK1
  have HK1 := Lib.hid hK1
  clear hK1
  go_wp2_with fail
  refine HK1.out _ _ ?_
  clear HK1
  apply wp_seq_k
  intro K2 hK2
  have HK2 := Lib.hid hK2
  clear hK2
  go_wp2_with fail
  exact HK2.out _ _ (lturn_mirs_yes r l lx nf n ha hb bx wb.heap.size w _ HOK.out (HB.out.grow HGW.out) (HBX.out.grow HGW.out) HY.out n1 xl (HG.out.tr HGW.out) HML.out HMR.out HLN.out HF.out HFX.out HCR.out HCX.out HCY.out HHR.out HHX.out HKR.out HKX.out HT.out HOL.out HOR.out)

end Go.Proofs.Ytjlaoiimbhlafaa
