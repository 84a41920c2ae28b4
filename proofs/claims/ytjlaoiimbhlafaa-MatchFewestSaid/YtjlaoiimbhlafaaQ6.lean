import Derived.Test.YtjlaoiimbhlafaaQ3
import Derived.Test.YtjlaoiimbhlafaaQ4
import Derived.Test.YtjlaoiimbhlafaaQ5
set_option linter.unusedVariables false
set_option linter.unusedSimpArgs false
namespace Go.Proofs.Ytjlaoiimbhlafaa
open Go.RowKit Go.Shelf

open MW
attribute [local go_sem] Oper.semAt_some run_store_func
attribute [local go_sem ↓] Go.wp_at_zero Go.wp_at_succ
attribute [local go_sem] guard55 guard24 neq55 eql24 neq24
attribute [-go_sem] run_eql_struct run_neq_struct
set_option maxRecDepth 100000 in
set_option maxHeartbeats 8000000 in
theorem lfew_start (r : Rr) (nf : Nat) (py : Option Addr) (ny cy : Nat) (w wb : World) (hok : r.ok = true) (hz : r.lkd.all0 ≠ 0) (hB : Box wb w.heap.size r.cs 26) (hG : Gr w wb) (hML : MksAt r.L r.lp w) (hMR : MksAt r.R r.rp w) (hU : U8s py ny w) (h0 : r.ways ≠ []) (hf : r.fewest = (r.best, nf, 0)) (hnf : nf = r.lkd.few) {s0 s3 s4 s5 s6 s7 s8 s9 s10 s11 s12 s13 s14 s15 s16 s17 s18 s19 s20 s21 s22 s23 s24 s25 s26 s27 s28 s29 s30 s31 s32 s33 s34 s35 s36 s37 s38 s39 s40 s41 s42 s43 s44 s45 s46 s47 s48 s49 s50 s51 s52 s53 s54 s55 s56 s57 s58 s59 s60 s61 s62 s63 s64 s65 s66 s67 s68 s69 s70 s71 s72 s73 s74 s75 s76 s77 s78 s79 s80 s81 s82 s83 s84 s85 s86 s87 s88 s89 s90 s91 s92 s93 s94 s95 s96 s97 s98 s99 s100 s101 s102 s103 s104 s105 s106 s107 s108 s109 s110 s111 s112 s113 s114 s115 s116 s117 s118 s119 s120 s121 s122 s123 s124 s125 s126 s127 s128 s129 s130 s131 s132 s133 s134 s135 s136 s137 s138 s139 s140 s141 s142 s143 s144 s145 s146 s147 s148 s149 s150 s151 s152 s153 s154 s155 s156 s157 s158 s159 s160 s161 s162 s163 s164 s165 s166 s167 s168 s169 s170 s171 s172 s173 s174 s175 s176 s177 s178 s179 s180 s181 s182 s183 s184 s185 s186 s187 s188 s189 s190 s191 s192 s193 s194 s195 s196 s197 s198 s199 s200 s201 s202 s203 s204 s205 s206 s207 s208 s209 s210 s211 s212 s213 s214 s215 s216 s217 s218 s219 s220 s221 s222 s223 s224 s225 s226 s227 s228 s229 s230 s231 s232 s233 s234 s235 s236 s237 s238 s239 s240 s241 s242 s243 s244 s245 s246 s247 s248 s249 s250 s251 s252 s253 s254 s255 s256 s257 s258 s259 s260 s261 s262 s263 s264 s265 s266 s267 s268 s269 s270 s271 s272 s273 s274 s275 s276 s277 s278 s279 s280 s281 s282 s283 s284 s285 s286 s287 s288 s289 s290 s291 s292 s293 s294 s295 s296 s297 s298 s299 s300 s301 s302 s303 s304 s305 s306 s307 s308 s309 s310 s311 s312 s313 s314 s315 s316 : Value} :
    (Code.snd2 (Code.snd2 (Try.f8.body.getD .skip))).wp Try.prog (bodyPost Try.prog Try.f8 fun e w' => e = .returned (.bool true) ∧ Below w.heap.size w w') { tmps := #[s0, .slice py ny cy, .pointer (some ⟨w.heap.size, 0, none⟩), s3, s4, s5, s6, s7, s8, s9, s10, s11, s12, s13, s14, s15, s16, s17, s18, s19, s20, s21, s22, s23, s24, s25, s26, s27, s28, s29, s30, s31, s32, s33, s34, s35, s36, s37, s38, s39, s40, s41, s42, s43, s44, s45, s46, s47, s48, s49, s50, s51, s52, s53, s54, s55, s56, s57, s58, s59, s60, s61, s62, s63, s64, s65, s66, s67, s68, s69, s70, s71, s72, s73, s74, s75, s76, s77, s78, s79, s80, s81, s82, s83, s84, s85, s86, s87, s88, s89, s90, s91, s92, s93, s94, s95, s96, s97, s98, s99, s100, s101, s102, s103, s104, s105, s106, s107, s108, s109, s110, s111, s112, s113, s114, s115, s116, s117, s118, s119, s120, s121, s122, s123, s124, s125, s126, s127, s128, s129, s130, s131, s132, s133, s134, s135, s136, s137, s138, s139, s140, s141, s142, s143, s144, s145, s146, s147, s148, s149, s150, s151, s152, s153, s154, s155, s156, s157, s158, s159, s160, s161, s162, s163, s164, s165, s166, s167, s168, s169, s170, s171, s172, s173, s174, s175, s176, s177, s178, s179, s180, s181, s182, s183, s184, s185, s186, s187, s188, s189, s190, s191, s192, s193, s194, s195, s196, s197, s198, s199, s200, s201, s202, s203, s204, s205, s206, s207, s208, s209, s210, s211, s212, s213, s214, s215, s216, s217, s218, s219, s220, s221, s222, s223, s224, s225, s226, s227, s228, s229, s230, s231, s232, s233, s234, s235, s236, s237, s238, s239, s240, s241, s242, s243, s244, s245, s246, s247, s248, s249, s250, s251, s252, s253, s254, s255, s256, s257, s258, s259, s260, s261, s262, s263, s264, s265, s266, s267, s268, s269, s270, s271, s272, s273, s274, s275, s276, s277, s278, s279, s280, s281, s282, s283, s284, s285, s286, s287, s288, s289, s290, s291, s292, s293, s294, s295, s296, s297, s298, s299, s300, s301, s302, s303, s304, s305, s306, s307, s308, s309, s310, s311, s312, s313, s314, s315, s316], defers := [] } wb := by
  conv => arg 2; whnf
  obtain ⟨p1, p2, -⟩ := Rr.ok_parts hok
  have hw := Rr.few_is hok h0
  have hle := Rr.few_le hok hz
  have hct : r.counted = (r.lkd.all0, 0) := by unfold Rr.counted; rw [if_pos hok]
  rw [← hnf] at hw hle
  have HEN := Lib.hid (show ∀ W, Gr wb W → ∀ (pa : Option Addr) (ka : Nat), PrsIn (.slice pa r.best.length ka) r.best W → ∀ {s0 s3 s4 s7 s8 s9 s10 s11 s12 s13 s14 s15 s16 s17 s18 s19 s20 s21 s22 s23 s24 s25 s26 s27 s28 s29 s30 s31 s32 s33 s34 s35 s36 s37 s38 s39 s40 s41 s42 s43 s44 s45 s46 s47 s48 s49 s50 s51 s52 s53 s54 s55 s56 s57 s58 s59 s60 s61 s62 s63 s64 s65 s66 s67 s68 s69 s70 s71 s72 s73 s74 s75 s76 s77 s78 s79 s80 s81 s82 s83 s84 s85 s86 s87 s88 s89 s90 s91 s92 s93 s94 s95 s96 s97 s98 s99 s100 s101 s102 s103 s104 s105 s106 s107 s108 s109 s110 s111 s112 s113 s114 s115 s116 s117 s118 s119 s120 s121 s122 s123 s124 s125 s126 s127 s128 s129 s130 s131 s132 s133 s134 s135 s136 s137 s138 s139 s140 s141 s142 s143 s144 s145 s146 s147 s148 s149 s150 s151 s152 s153 s154 s155 s156 s157 s158 s159 s160 s161 s162 s163 s164 s165 s166 s167 s168 s169 s170 s171 s172 s173 s174 s175 s176 s177 s178 s179 s180 s181 s182 s183 s184 s185 s186 s187 s188 s189 s190 s191 s192 s193 s194 s195 s196 s197 s198 s199 s200 s201 s202 s203 s204 s205 s206 s207 s208 s209 s210 s211 s212 s213 s214 s215 s216 s217 s218 s219 s220 s221 s222 s223 s224 s225 s226 s227 s228 s229 s230 s231 s232 s233 s234 s235 s236 s237 s238 s239 s240 s241 s242 s243 s244 s245 s246 s247 s248 s249 s250 s251 s252 s253 s254 s255 s256 s257 s258 s259 s260 s261 s262 s263 s264 s265 s266 s267 s268 s269 s270 s271 s272 s273 s274 s275 s276 s277 s278 s279 s280 s281 s282 s283 s284 s285 s286 s287 s288 s289 s290 s291 s292 s293 s294 s295 s296 s297 s298 s299 s300 s301 s302 s303 s304 s305 s306 s307 s308 s309 s310 s311 s312 s313 s314 s315 s316 : Value}, (Code.snd2 (Code.snd2 (Code.snd2 (Code.snd2 (Code.snd2 (Code.snd2 (Try.f8.body.getD .skip))))))).wp Try.prog (bodyPost Try.prog Try.f8 fun e w' => e = .returned (.bool true) ∧ Below w.heap.size w w') { tmps := #[s0, .slice py ny cy, .pointer (some ⟨w.heap.size, 0, none⟩), s3, s4, .slice pa r.best.length ka, .int .i64 nf, s7, s8, s9, s10, s11, s12, s13, s14, s15, s16, s17, s18, s19, s20, s21, s22, s23, s24, s25, s26, s27, s28, s29, s30, s31, s32, s33, s34, s35, s36, s37, s38, s39, s40, s41, s42, s43, s44, s45, s46, s47, s48, s49, s50, s51, s52, s53, s54, s55, s56, s57, s58, s59, s60, s61, s62, s63, s64, s65, s66, s67, s68, s69, s70, s71, s72, s73, s74, s75, s76, s77, s78, s79, s80, s81, s82, s83, s84, s85, s86, s87, s88, s89, s90, s91, s92, s93, s94, s95, s96, s97, s98, s99, s100, s101, s102, s103, s104, s105, s106, s107, s108, s109, s110, s111, s112, s113, s114, s115, s116, s117, s118, s119, s120, s121, s122, s123, s124, s125, s126, s127, s128, s129, s130, s131, s132, s133, s134, s135, s136, s137, s138, s139, s140, s141, s142, s143, s144, s145, s146, s147, s148, s149, s150, s151, s152, s153, s154, s155, s156, s157, s158, s159, s160, s161, s162, s163, s164, s165, s166, s167, s168, s169, s170, s171, s172, s173, s174, s175, s176, s177, s178, s179, s180, s181, s182, s183, s184, s185, s186, s187, s188, s189, s190, s191, s192, s193, s194, s195, s196, s197, s198, s199, s200, s201, s202, s203, s204, s205, s206, s207, s208, s209, s210, s211, s212, s213, s214, s215, s216, s217, s218, s219, s220, s221, s222, s223, s224, s225, s226, s227, s228, s229, s230, s231, s232, s233, s234, s235, s236, s237, s238, s239, s240, s241, s242, s243, s244, s245, s246, s247, s248, s249, s250, s251, s252, s253, s254, s255, s256, s257, s258, s259, s260, s261, s262, s263, s264, s265, s266, s267, s268, s269, s270, s271, s272, s273, s274, s275, s276, s277, s278, s279, s280, s281, s282, s283, s284, s285, s286, s287, s288, s289, s290, s291, s292, s293, s294, s295, s296, s297, s298, s299, s300, s301, s302, s303, s304, s305, s306, s307, s308, s309, s310, s311, s312, s313, s314, s315, s316], defers := [] } W from fun W hg pa ka hA => by
    intros
    have hG2 := hG.tr hg
    refine lfew_l r nf ny cy pa py ka w W hok h0 (hB.grow hg) (hML.grow hG2) (hMR.grow hG2) hA (by omega) fun W2 hg2 => ?_
    have hG3 := hG2.tr hg2
    intros
    refine lfew_by r nf ny cy pa py ka w W2 hok h0 ((hB.grow hg).grow hg2) hG3 (hML.grow hG3) (hMR.grow hG3) (hA.grow hg2) (hU.grow hG3) (by omega) fun W3 hg3 q po ko hq hc => ?_
    have hG4 := hG3.tr hg3
    intros
    refine lfew_cmp r q nf pa po ka ko w W3 hok h0 (((hB.grow hg).grow hg2).grow hg3) hG4 (hML.grow hG4) (hMR.grow hG4) ((hA.grow hg2).grow hg3) hq hc (by omega) fun W4 hg4 => ?_
    have hG5 := hG4.tr hg4
    intros
    have hfw : (r.wH nf).fewest = (((r.wH nf).lkd.wh (r.wH nf).lkd.few).fst, nf, 0) := by
      have h1 : (r.wH nf).lkd.all0 ≠ 0 := by rw [hnf]; exact Rr.few_way hok hz
      have h2 : (r.wH nf).ok = true := by
        unfold Rr.ok Rr.wH at *
        simp only [Bool.and_eq_true, decide_eq_true_eq] at hok ⊢
        exact ⟨⟨hok.1.1, by omega⟩, by omega⟩
      have h3 : (r.wH nf).lkd.few = nf := by rw [Rr.same_few, hnf]
      unfold Rr.fewest
      rw [if_pos h2, if_neg h1, h3]
    refine lfew_end r _ nf w W4 hok ((((hB.grow hg).grow hg2).grow hg3).grow hg4) hG5 (hML.grow hG5) (hMR.grow hG5) (by omega) hfw fun m hm => ?_
    have h2 : (r.wH m).ok = true := by
      unfold Rr.ok Rr.wH at *
      simp only [Bool.and_eq_true, decide_eq_true_eq] at hok ⊢
      exact ⟨⟨hok.1.1, by omega⟩, by omega⟩
    have h1 := Rr.less_none (n := m) hok hz (by omega)
    unfold Rr.counted
    rw [if_pos h2, h1])
  have H20 := Lib.hid (fun W (hg : Gr wb W) => few20 r W (hML.grow (hG.tr hg)) (hMR.grow (hG.tr hg)) hf)
  have h18 := fun W (hg : Gr wb W) => Count_any r W (hML.grow (hG.tr hg)) (hMR.grow (hG.tr hg))
  rw [hct] at h18
  have H18 := Lib.hid h18
  have H38 := Lib.hid (fun W (hg : Gr wb W) => rows38_is r W (hML.grow (hG.tr hg)) (hMR.grow (hG.tr hg)) true hok)
  unfold Rr.val at H20 H18 H38
  have e1 : ((nf : Int) != (r.L.length : Int) + r.R.length - 2 * r.best.length) = false := by simp; omega
  have e2 : decide (r.h < (nf : Int)) = false := by simp; omega
  have e2n : ¬ (r.h < (nf : Int)) := by omega
  have e3 : ¬ (r.lkd.all0 < 1) := by omega
  have e4 : decide ((r.lkd.all0 : Int) < 1) = false := by simp; omega
  have hb0 : r.best.length ≤ 20 := by omega
  have HB := Lib.hid hB
  generalize r.lkd.all0 = n0 at *
  clear hok hz hG hML hMR hU h0 hf hct h18 hw hle hB hnf
  unfold Rr.cs at HB
  have HGW := Lib.hid (Gr.same wb)
  have ew : ∀ x : Int, 0 ≤ x → x ≤ 20 → 0 ≤ x := fun _ h _ => h
  clear ew
  apply wp_seq_k
  intro KA hKA
  have HKA := Lib.hid hKA
  clear hKA
  obtain ⟨r0, r1, r2, r3, r4⟩ := cells5 HB.out
  have rl := HB.out.lt
  go_wp2_with (first | (go_at_call 20; (with_reducible refine (H20.out _ HGW.out).mono ?_); rintro e w1 ⟨⟨v20, rfl, hv⟩, hb⟩; obtain ⟨pa, ka, rfl, -⟩ := id hv; have HA := Lib.hid hv; clear hv r0 r1 r2 r3 r4 rl; have HGW2 := Lib.hid (Gr.tr HGW.out hb); clear HGW hb; have HGW := HGW2; clear HGW2; dsimp only))
  refine HKA.out _ _ ?_
  clear HKA
  apply wp_seq_k
  intro KA hKA
  have HKA := Lib.hid hKA
  clear hKA
  obtain ⟨r0, r1, r2, r3, r4⟩ := cells5 (HB.out.grow HGW.out)
  have rl := (HB.out.grow HGW.out).lt
  go_wp2_with (first | (go_at_call 18; (with_reducible refine (H18.out _ HGW.out).mono ?_); rintro e w2 ⟨rfl, hb⟩; clear r0 r1 r2 r3 r4 rl; have HA2 := Lib.hid (HA.out.grow hb); have HGW2 := Lib.hid (Gr.tr HGW.out hb); clear HGW HA hb; have HGW := HGW2; have HA := HA2; clear HGW2 HA2; dsimp only))
  refine HKA.out _ _ ?_
  clear HKA
  apply wp_seq_k
  intro KA hKA
  have HKA := Lib.hid hKA
  clear hKA
  go_wp2_with fail
  refine HKA.out _ _ ?_
  clear HKA
  apply wp_seq_k
  intro KA hKA
  have HKA := Lib.hid hKA
  clear hKA
  obtain ⟨r0, r1, r2, r3, r4⟩ := cells5 (HB.out.grow HGW.out)
  have rl := (HB.out.grow HGW.out).lt
  go_wp2_with (first | (go_at_call 38; (with_reducible refine (H38.out _ HGW.out).mono ?_); rintro e w3 ⟨rfl, hb⟩; have HA2 := Lib.hid (HA.out.grow hb); have HGW2 := Lib.hid (Gr.tr HGW.out hb); clear HGW HA hb r0 r1 r2 r3 r4 rl; have HGW := HGW2; have HA := HA2; clear HGW2 HA2; obtain ⟨r0, r1, r2, r3, r4⟩ := cells5 (HB.out.grow HGW.out); have rl := (HB.out.grow HGW.out).lt; dsimp only))
  exact HKA.out _ _ (HEN.out _ HGW.out pa ka HA.out)
set_option maxRecDepth 100000 in
set_option maxHeartbeats 8000000 in
theorem lfew_yes (r : Rr) (py : Option Addr) (ny cy : Nat) (w : World) (hl : r.L.length ≤ 24 → MksAt r.L r.lp w) (hr : r.R.length ≤ 24 → MksAt r.R r.rp w) (hg : r.great 10 = false) (h1 : r.L.length ≤ 24) (h2 : r.R.length ≤ 24) (hok : r.ok = true) (hz : r.lkd.all0 ≠ 0) (hU : U8s py ny w) :
    Calls Try.prog 8 #[r.val, .slice py ny cy] w fun e w' => e = .returned (.bool true) ∧ Below w.heap.size w w' := by
  have H14 := Lib.hid (fun W (hg : Gr w W) => great10_any r W (fun h => (hl h).grow hg) (fun h => (hr h).grow hg))
  rw [hg] at H14
  have h0 : r.ways ≠ [] := fun e => hz (by rw [Rr.all0_is hok, e]; rfl)
  have hf : r.fewest = (r.best, r.lkd.few, 0) := by unfold Rr.fewest; rw [if_pos hok, if_neg hz, Rr.fst_is hok h0]
  have HP := Lib.hid (And.intro (hl h1) (And.intro (hr h2) (And.intro hU (And.intro h0 (And.intro hf (And.intro hok hz))))))
  clear hl hr hg h1 h2 hok hz h0 hf hU
  have HB := Lib.hid (Box.fresh w r.cs 26)
  have HG := Lib.hid (show Gr w (w.alloc (Obj.cells r.cs.toArray 26)) from Gr.alloc _ _)
  unfold Rr.cs at HB HG
  unfold Rr.val at *
  obtain ⟨r0, r1, r2, r3, r4⟩ := cells5 HB.out
  have rl := HB.out.lt
  go_enter Try.func8, Try.ntmps8
  apply wp_seq_k
  intro K1 hK1
  have HK1 := Lib.hid hK1
  clear hK1
  go_wp2_with fail
  refine HK1.out _ _ ?_
  clear HK1
  apply wp_seq_k
  intro K2 hK2
  have HK2 := Lib.hid hK2
  clear hK2
  go_wp2_with (first | (go_at_call 14; (with_reducible refine (H14.out _ (by first | exact HG.out | exact Gr.tr HG.out (Gr.alloc _ _) | exact Gr.tr HG.out ((Gr.alloc _ _).tr (Gr.alloc _ _)) | exact Gr.tr HG.out (Gr.drew _))).mono ?_); rintro e wg ⟨rfl, hb⟩; have HG := Lib.hid (show Gr w wg from by first | exact Gr.tr HG.out hb | exact Gr.tr (HG.out.tr (Gr.alloc _ _)) hb | exact Gr.tr (HG.out.tr ((Gr.alloc _ _).tr (Gr.alloc _ _))) hb | exact Gr.tr (HG.out.tr (Gr.drew _)) hb); have HB := Lib.hid (HB.out.grow (by first | exact hb | exact Gr.tr (Gr.alloc _ _) hb | exact Gr.tr ((Gr.alloc _ _).tr (Gr.alloc _ _)) hb | exact Gr.tr (Gr.drew _) hb)); clear r0 r1 r2 r3 r4 rl; obtain ⟨r0, r1, r2, r3, r4⟩ := cells5 HB.out; have rl := HB.out.lt; clear hb))
  obtain ⟨q1, q2, q3, q4, q5, q6, q7⟩ := HP.out
  exact HK2.out _ _ (lfew_start r _ py ny cy w _ q6 q7 HB.out HG.out q1 q2 q3 q4 q5 rfl)
/-- MatchFewest is true, whatever the rows and the bytes are. -/
theorem lfew_any (r : Rr) (py : Option Addr) (ny cy : Nat) (w : World) (hl : r.L.length ≤ 24 → MksAt r.L r.lp w) (hr : r.R.length ≤ 24 → MksAt r.R r.rp w) (hU : U8s py ny w) :
    Calls Try.prog 8 #[r.val, .slice py ny cy] w fun e w' => e = .returned (.bool true) ∧ Below w.heap.size w w' := by
  cases hg : r.great 10 with
  | true => exact lfew_great r py ny cy w hl hr hg
  | false =>
    have hb := hg
    unfold Rr.great at hb
    simp only [Bool.or_eq_false_iff, decide_eq_false_iff_not] at hb
    cases hok : r.ok with
    | false => exact lfew_no r py ny cy w hl hr hg (by omega) (by omega) hok
    | true =>
      by_cases hz : r.lkd.all0 = 0
      · exact lfew_zero r py ny cy w hl hr hg (by omega) (by omega) hok hz
      · exact lfew_yes r py ny cy w hl hr hg (by omega) (by omega) hok hz hU

end Go.Proofs.Ytjlaoiimbhlafaa
