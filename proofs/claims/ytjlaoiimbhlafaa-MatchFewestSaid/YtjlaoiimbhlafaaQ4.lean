import Derived.Test.YtjlaoiimbhlafaaQ2
set_option linter.unusedVariables false
set_option linter.unusedSimpArgs false
namespace Go.Proofs.Ytjlaoiimbhlafaa
open Go.RowKit Go.Shelf

open MW
attribute [local go_sem] Oper.semAt_some run_store_func
attribute [local go_sem ↓] Go.wp_at_zero Go.wp_at_succ
attribute [local go_sem] guard55 guard24 neq55 eql24 neq24
attribute [-go_sem] run_eql_struct run_neq_struct
set_option maxRecDepth 100000 in
set_option maxHeartbeats 8000000 in
theorem lfew_l (r : Rr) (nf ny cy : Nat) (pa py : Option Addr) (ka : Nat) (w wb : World) (hok : r.ok = true) (h0 : r.ways ≠ []) (hB : Box wb w.heap.size r.cs 26) (hML : MksAt r.L r.lp wb) (hMR : MksAt r.R r.rp wb) (hA : PrsIn (.slice pa r.best.length ka) r.best wb) (hbl : r.best.length ≤ 1000)
    (hend : ∀ W, Gr wb W → ∀ {s0 s3 s4 s7 s8 s9 s10 s11 s12 s13 s14 s15 s16 s17 s18 s19 s20 s21 s22 s23 s24 s25 s26 s27 s28 s29 s30 s31 s32 s33 s34 s35 s36 s37 s38 s39 s40 s41 s42 s43 s44 s45 s46 s47 s48 s49 s50 s51 s52 s53 s54 s55 s56 s57 s58 s59 s60 s61 s62 s63 s64 s65 s66 s67 s68 s69 s70 s71 s72 s73 s74 s75 s76 s77 s78 s79 s80 s81 s82 s83 s84 s85 s86 s87 s88 s89 s90 s91 s92 s93 s94 s95 s96 s97 s98 s99 s100 s101 s102 s103 s104 s105 s106 s107 s108 s109 s110 s111 s112 s113 s114 s115 s116 s117 s118 s119 s120 s121 s122 s123 s124 s125 s126 s127 s128 s129 s130 s131 s132 s133 s134 s135 s136 s137 s138 s139 s140 s141 s142 s143 s144 s145 s146 s147 s148 s149 s150 s151 s152 s153 s154 s155 s156 s157 s158 s159 s160 s161 s162 s163 s164 s165 s166 s167 s168 s169 s170 s171 s172 s173 s174 s175 s176 s177 s178 s179 s180 s181 s182 s183 s184 s185 s186 s187 s188 s189 s190 s191 s192 s193 s194 s195 s196 s197 s198 s199 s200 s201 s202 s203 s204 s205 s206 s207 s208 s209 s210 s211 s212 s213 s214 s215 s216 s217 s218 s219 s220 s221 s222 s223 s224 s225 s226 s227 s228 s229 s230 s231 s232 s233 s234 s235 s236 s237 s238 s239 s240 s241 s242 s243 s244 s245 s246 s247 s248 s249 s250 s251 s252 s253 s254 s255 s256 s257 s258 s259 s260 s261 s262 s263 s264 s265 s266 s267 s268 s269 s270 s271 s272 s273 s274 s275 s276 s277 s278 s279 s280 s281 s282 s283 s284 s285 s286 s287 s288 s289 s290 s291 s292 s293 s294 s295 s296 s297 s298 s299 s300 s301 s302 s303 s304 s305 s306 s307 s308 s309 s310 s311 s312 s313 s314 s315 s316 : Value}, (Code.snd2 (Code.snd2 (Code.snd2 (Code.snd2 (Code.snd2 (Code.snd2 (Code.snd2 (Try.f8.body.getD .skip)))))))).wp Try.prog (bodyPost Try.prog Try.f8 fun e w' => e = .returned (.bool true) ∧ Below w.heap.size w w') { tmps := #[s0, .slice py ny cy, .pointer (some ⟨w.heap.size, 0, none⟩), s3, s4, .slice pa r.best.length ka, .int .i64 nf, s7, s8, s9, s10, s11, s12, s13, s14, s15, s16, s17, s18, s19, s20, s21, s22, s23, s24, s25, s26, s27, s28, s29, s30, s31, s32, s33, s34, s35, s36, s37, s38, s39, s40, s41, s42, s43, s44, s45, s46, s47, s48, s49, s50, s51, s52, s53, s54, s55, s56, s57, s58, s59, s60, s61, s62, s63, s64, s65, s66, s67, s68, s69, s70, s71, s72, s73, s74, s75, s76, s77, s78, s79, s80, s81, s82, s83, s84, s85, s86, s87, s88, s89, s90, s91, s92, s93, s94, s95, s96, s97, s98, s99, s100, s101, s102, s103, s104, s105, s106, s107, s108, s109, s110, s111, s112, s113, s114, s115, s116, s117, s118, s119, s120, s121, s122, s123, s124, s125, s126, s127, s128, s129, s130, s131, s132, s133, s134, s135, s136, s137, s138, s139, s140, s141, s142, s143, s144, s145, s146, s147, s148, s149, s150, s151, s152, s153, s154, s155, s156, s157, s158, s159, s160, s161, s162, s163, s164, s165, s166, s167, s168, s169, s170, s171, s172, s173, s174, s175, s176, s177, s178, s179, s180, s181, s182, s183, s184, s185, s186, s187, s188, s189, s190, s191, s192, s193, s194, s195, s196, s197, s198, s199, s200, s201, s202, s203, s204, s205, s206, s207, s208, s209, s210, s211, s212, s213, s214, s215, s216, s217, s218, s219, s220, s221, s222, s223, s224, s225, s226, s227, s228, s229, s230, s231, s232, s233, s234, s235, s236, s237, s238, s239, s240, s241, s242, s243, s244, s245, s246, s247, s248, s249, s250, s251, s252, s253, s254, s255, s256, s257, s258, s259, s260, s261, s262, s263, s264, s265, s266, s267, s268, s269, s270, s271, s272, s273, s274, s275, s276, s277, s278, s279, s280, s281, s282, s283, s284, s285, s286, s287, s288, s289, s290, s291, s292, s293, s294, s295, s296, s297, s298, s299, s300, s301, s302, s303, s304, s305, s306, s307, s308, s309, s310, s311, s312, s313, s314, s315, s316], defers := [] } W) {s0 s3 s4 s7 s8 s9 s10 s11 s12 s13 s14 s15 s16 s17 s18 s19 s20 s21 s22 s23 s24 s25 s26 s27 s28 s29 s30 s31 s32 s33 s34 s35 s36 s37 s38 s39 s40 s41 s42 s43 s44 s45 s46 s47 s48 s49 s50 s51 s52 s53 s54 s55 s56 s57 s58 s59 s60 s61 s62 s63 s64 s65 s66 s67 s68 s69 s70 s71 s72 s73 s74 s75 s76 s77 s78 s79 s80 s81 s82 s83 s84 s85 s86 s87 s88 s89 s90 s91 s92 s93 s94 s95 s96 s97 s98 s99 s100 s101 s102 s103 s104 s105 s106 s107 s108 s109 s110 s111 s112 s113 s114 s115 s116 s117 s118 s119 s120 s121 s122 s123 s124 s125 s126 s127 s128 s129 s130 s131 s132 s133 s134 s135 s136 s137 s138 s139 s140 s141 s142 s143 s144 s145 s146 s147 s148 s149 s150 s151 s152 s153 s154 s155 s156 s157 s158 s159 s160 s161 s162 s163 s164 s165 s166 s167 s168 s169 s170 s171 s172 s173 s174 s175 s176 s177 s178 s179 s180 s181 s182 s183 s184 s185 s186 s187 s188 s189 s190 s191 s192 s193 s194 s195 s196 s197 s198 s199 s200 s201 s202 s203 s204 s205 s206 s207 s208 s209 s210 s211 s212 s213 s214 s215 s216 s217 s218 s219 s220 s221 s222 s223 s224 s225 s226 s227 s228 s229 s230 s231 s232 s233 s234 s235 s236 s237 s238 s239 s240 s241 s242 s243 s244 s245 s246 s247 s248 s249 s250 s251 s252 s253 s254 s255 s256 s257 s258 s259 s260 s261 s262 s263 s264 s265 s266 s267 s268 s269 s270 s271 s272 s273 s274 s275 s276 s277 s278 s279 s280 s281 s282 s283 s284 s285 s286 s287 s288 s289 s290 s291 s292 s293 s294 s295 s296 s297 s298 s299 s300 s301 s302 s303 s304 s305 s306 s307 s308 s309 s310 s311 s312 s313 s314 s315 s316 : Value} :
    (Code.snd2 (Code.snd2 (Code.snd2 (Code.snd2 (Code.snd2 (Code.snd2 (Try.f8.body.getD .skip))))))).wp Try.prog (bodyPost Try.prog Try.f8 fun e w' => e = .returned (.bool true) ∧ Below w.heap.size w w') { tmps := #[s0, .slice py ny cy, .pointer (some ⟨w.heap.size, 0, none⟩), s3, s4, .slice pa r.best.length ka, .int .i64 nf, s7, s8, s9, s10, s11, s12, s13, s14, s15, s16, s17, s18, s19, s20, s21, s22, s23, s24, s25, s26, s27, s28, s29, s30, s31, s32, s33, s34, s35, s36, s37, s38, s39, s40, s41, s42, s43, s44, s45, s46, s47, s48, s49, s50, s51, s52, s53, s54, s55, s56, s57, s58, s59, s60, s61, s62, s63, s64, s65, s66, s67, s68, s69, s70, s71, s72, s73, s74, s75, s76, s77, s78, s79, s80, s81, s82, s83, s84, s85, s86, s87, s88, s89, s90, s91, s92, s93, s94, s95, s96, s97, s98, s99, s100, s101, s102, s103, s104, s105, s106, s107, s108, s109, s110, s111, s112, s113, s114, s115, s116, s117, s118, s119, s120, s121, s122, s123, s124, s125, s126, s127, s128, s129, s130, s131, s132, s133, s134, s135, s136, s137, s138, s139, s140, s141, s142, s143, s144, s145, s146, s147, s148, s149, s150, s151, s152, s153, s154, s155, s156, s157, s158, s159, s160, s161, s162, s163, s164, s165, s166, s167, s168, s169, s170, s171, s172, s173, s174, s175, s176, s177, s178, s179, s180, s181, s182, s183, s184, s185, s186, s187, s188, s189, s190, s191, s192, s193, s194, s195, s196, s197, s198, s199, s200, s201, s202, s203, s204, s205, s206, s207, s208, s209, s210, s211, s212, s213, s214, s215, s216, s217, s218, s219, s220, s221, s222, s223, s224, s225, s226, s227, s228, s229, s230, s231, s232, s233, s234, s235, s236, s237, s238, s239, s240, s241, s242, s243, s244, s245, s246, s247, s248, s249, s250, s251, s252, s253, s254, s255, s256, s257, s258, s259, s260, s261, s262, s263, s264, s265, s266, s267, s268, s269, s270, s271, s272, s273, s274, s275, s276, s277, s278, s279, s280, s281, s282, s283, s284, s285, s286, s287, s288, s289, s290, s291, s292, s293, s294, s295, s296, s297, s298, s299, s300, s301, s302, s303, s304, s305, s306, s307, s308, s309, s310, s311, s312, s313, s314, s315, s316], defers := [] } wb := by
  conv => arg 2; whnf
  have HEND := Lib.hid hend
  have HB := Lib.hid hB
  have HA := Lib.hid (PrsIn.at hA)
  have HF := Lib.hid (fun c x (hx : r.best[c]? = some x) => Rr.best_fit h0 hx)
  have HU := Lib.hid (fun c x y (hx : r.best[c]? = some x) (hy : r.best[c + 1]? = some y) => Rr.best_up h0 hx hy)
  have H16 := Lib.hid (fun W (hg : Gr wb W) i j hi hj => fits16_yes r W (hML.grow hg) (hMR.grow hg) hok i j hi hj)
  unfold Rr.val at H16
  clear hok h0 hB hML hMR hA hend
  unfold Rr.cs at HB
  apply wp_seq_k
  intro KB hKB
  have HKB := Lib.hid hKB
  clear hKB
  go_wp2_with fail
  go_loopw [121] (fun t wr => ∃ c : Nat, c ≤ r.best.length ∧ t = .int .i64 c ∧ Hid (Gr wb wr)) (fun t _ => ((r.best.length : Int) - intOf t).toNat)
  case atStart => exact ⟨0, Nat.zero_le _, rfl, Lib.hid (Gr.same _)⟩
  case round =>
    obtain ⟨c, hc, rfl, HR⟩ := hrel
    by_cases hlt : c < r.best.length
    · have g1 : (c : Int) < r.best.length := by omega
      obtain ⟨x, hx⟩ : ∃ x, r.best[c]? = some x := ⟨_, List.getElem?_eq_getElem hlt⟩
      obtain ⟨ba, oa, hpa, hba, a1, a2⟩ := HA.out _ HR.out c x hx
      subst hpa
      have h6 := fun W (hg : Gr wb W) => H16.out W hg x.1 x.2 (HF.out c x hx).1 (HF.out c x hx).2.1
      rw [(HF.out c x hx).2.2] at h6
      have H6 := Lib.hid h6
      have HX := Lib.hid hx
      clear hx h6
      have HRA := Lib.hid (show Gr wb (wr.alloc (Obj.cells #[.int .i64 x.1, .int .i64 x.2] 55)) from HR.out.tr (Gr.alloc _ _))
      have HBA := Lib.hid (Box.fresh wr [.int .i64 x.1, .int .i64 x.2] 55)
      obtain ⟨r0, r1, r2, r3, r4⟩ := cells5 (HB.out.grow HRA.out)
      have rl := (HB.out.grow HRA.out).lt
      go_wp2_with fail
      (with_reducible refine (H6.out _ HRA.out).mono ?_)
      rintro e w6 ⟨rfl, hb⟩
      have HR6 := Lib.hid (HRA.out.tr hb)
      have HB6 := Lib.hid (HBA.out.grow hb)
      clear r0 r1 r2 r3 r4 rl HRA HBA H6 a1 a2 hba
      generalize wr.heap.size = bw at *
      have z0 := HB6.out.cell (i := 0) rfl
      have z1 := HB6.out.cell (i := 1) rfl
      have zl := HB6.out.lt
      clear hb
      dsimp only
      rcases Nat.eq_zero_or_pos c with hz | hz
      · have g0 : ¬ 0 < c := by omega
        have g0' : decide ((0 : Int) < c) = false := by simp; omega
        clear hz
        go_wp2_with fail
        go_quiet (fail)
        go_wp2_with fail
        exact ⟨⟨c + 1, by omega, by go_num, Lib.hid (HR6.out.tr (Gr.drewN _ _))⟩, by simp [intOf]; omega⟩
      · obtain ⟨d, hd⟩ : ∃ d, c = d + 1 := ⟨c - 1, by omega⟩
        have g0 : 0 < c := hz
        have g0' : decide ((0 : Int) < c) = true := by simp; omega
        obtain ⟨y, hy⟩ : ∃ y, r.best[d]? = some y := ⟨_, List.getElem?_eq_getElem (by omega)⟩
        obtain ⟨ba', oa', hpa, hba, a1, a2⟩ := HA.out _ HR6.out d y hy
        cases hpa
        have hu := HU.out d y x hy (by rw [← hd]; exact HX.out)
        have g2 : IntKind.i64.wrap ((c : Int) - 1) = d := by rw [IntWalk.i64_in _ (by omega)]; omega
        have g2' : ((c : Int) - 1) = d := by omega
        have g3 : (d : Int) < r.best.length := by omega
        have e1 : ¬ x.1 ≤ y.1 := by omega
        have e2 : ¬ x.2 ≤ y.2 := by omega
        have e3 : decide ((x.1 : Int) ≤ y.1) = false := by simp; omega
        have e4 : decide ((x.2 : Int) ≤ y.2) = false := by simp; omega
        clear hu hy hd hz
        go_wp2_with fail
        go_quiet (fail)
        go_wp2_with fail
        exact ⟨⟨c + 1, by omega, by go_num, Lib.hid (HR6.out.tr (Gr.drewN _ _))⟩, by simp [intOf]; omega⟩
    · have hcn : c = r.best.length := by omega
      subst hcn
      go_wp2_with fail
      exact HKB.out _ _ (HEND.out _ HR.out)

end Go.Proofs.Ytjlaoiimbhlafaa
