import Derived.Test.YtjlaoiimbhlafaaT8
import Derived.Laws.StructEq
import Derived.IntWalk
import Derived.Deep.CutBlock
import Derived.Deep.DeepCutAuto
set_option linter.unusedVariables false
set_option linter.unusedSimpArgs false
namespace Go.Proofs.Ytjlaoiimbhlafaa
open Go.RowKit Go.Shelf

open MW
attribute [local go_sem] Oper.semAt_some run_store_func
attribute [local go_sem] guard55 guard24 neq55 eql24 neq24
attribute [-go_sem] run_eql_struct run_neq_struct
def Mv (l : List Mrk) (v : Value) (W : World) : Prop := ∃ q c, v = .slice q l.length c ∧ MksAt (mirL l) q W
theorem Mv.grow {l : List Mrk} {v : Value} {W W' : World} (h : Mv l v W) (hg : Gr W W') : Mv l v W' := by
  obtain ⟨q, c, h1, h2⟩ := h
  exact ⟨q, c, h1, h2.grow hg⟩
theorem mir42 (l : List Mrk) (p : Option Addr) (cap : Nat) (w : World) (hl : MksAt l p w) (h10 : l.length ≤ 10) (hok : ∀ m ∈ l, m.ok = true) :
    Calls Try.prog 42 #[.slice p l.length cap] w fun e w' => (∃ v, e = .returned v ∧ Mv l v w') ∧ Below w.heap.size w w' := by
  refine (mirror42_any l p cap w hl h10 hok).mono ?_
  rintro e w' ⟨⟨q, c, h1, h2⟩, h3⟩
  exact ⟨⟨_, h1, q, c, rfl, h2⟩, h3⟩
theorem mks_ap {l : List Mrk} {q : Option Addr} {W W' : World} {g : Nat} {T : TypeId} {p1 p2 : Option Addr} {a1 a2 c1 c2 : Nat} {x y z : Value} (h : MksAt l q W) (hB : Box W g [.slice p1 a1 c1, .slice p2 a2 c2, x, y, z] T) (ho : Ot g W W') : MksAt l q W' :=
  ⟨h.1, fun i m hm => by
    obtain ⟨b, o, h1, h2, h3, h4, h5, h6⟩ := h.2 i m hm
    have n : b ≠ g := by
      rintro rfl
      have e : ∀ k v, W.cell? ⟨b, k, none⟩ = some v → ([.slice p1 a1 c1, .slice p2 a2 c2, x, y, z] : List Value)[k]? = some v := by
        intro k v hk
        unfold Box at hB
        simpa [World.cell?, hB] using hk
      have a3 := e _ _ h3
      have a6 := e _ _ h6
      generalize o + i * 4 = s at a3 a6
      rcases s with _ | _ | s
      · simp at a3
      · simp at a3
      · simp at a6
    exact ⟨b, o, h1, Nat.lt_of_lt_of_le h2 ho.1, by rw [ho.cell h2 n]; exact h3, by rw [ho.cell h2 n]; exact h4, by rw [ho.cell h2 n]; exact h5, by rw [ho.cell h2 n]; exact h6⟩⟩
set_option maxRecDepth 100000 in
set_option maxHeartbeats 8000000 in
theorem lturn_mirs_zero (r : Rr) (l lx : List (Nat × Nat)) (nf n ha hb bx by_ : Nat) (w wb : World) (hok : r.ok = true) (hB : Box wb w.heap.size r.cs 26) (hX : Box wb bx r.swap.cs 26) (hY : Box wb by_ [.slice none 0 0, .slice none 0 0, .int .i64 (-r.t), .int .i64 (-r.s), .int .i64 r.h] 26) (n1 : w.heap.size < bx) (n2 : bx < by_) (hG : Gr w wb) (hML : MksAt r.L r.lp w) (hMR : MksAt r.R r.rp w) (hln : l.length ≤ 1000) (hf : r.fewest = (l, nf, 4)) (hfx : r.swap.fewest = (lx, nf, 4)) (hcr : r.counted = (n, 0)) (hcx : r.swap.counted = (n, 0)) (hcy : ∀ q c q2 c2, (r.mirror q c q2 c2).counted = (n, 0)) (hhr : r.hides = (ha, hb, 4)) (hhx : r.swap.hides = (hb, ha, 4)) (hkr : r.can = ((List.range (0)).map (fun _ => 0), 4)) (hkx : r.swap.can = ((List.range (0)).map (fun _ => 0), 4)) (t10 : r.L.length ≤ 10 ∧ r.R.length ≤ 10) (oL : ∀ m ∈ r.L, m.ok = true) (oR : ∀ m ∈ r.R, m.ok = true) {s0 s2 s6 s7 s8 s9 s10 s11 s12 s13 s14 s15 s16 s17 s18 s19 s20 s21 s22 s23 s24 s25 s26 s27 s28 s29 s30 s31 s32 s33 s34 s35 s36 s37 s38 s39 s40 s41 s42 s43 s44 s45 s46 s47 s48 s49 s50 s51 s52 s53 s54 s55 s56 s57 s58 s59 s60 s61 s62 s63 s64 s65 s66 s67 s68 s69 s70 s71 s72 s73 s74 s75 s76 s77 s78 s79 s80 s81 s82 s83 s84 s85 s86 s87 s88 s89 s90 s91 s92 s93 s94 s95 s96 s97 s98 s99 s100 s101 s102 s103 s104 s105 s106 s107 s108 s109 s110 s111 s112 s113 s114 s115 s116 s117 s118 s119 s120 s121 s122 s123 s124 s125 s126 s127 s128 s129 s130 s131 s132 s133 s134 s135 s136 s137 s138 s139 s140 s141 s142 s143 s144 s145 s146 s147 s148 s149 s150 s151 s152 s153 s154 s155 s156 s157 s158 s159 s160 s161 s162 s163 s164 s165 s166 s167 s168 s169 s170 s171 s172 s173 s174 s175 s176 s177 s178 s179 s180 s181 s182 s183 s184 s185 s186 s187 s188 s189 s190 s191 s192 s193 s194 s195 s196 s197 s198 s199 s200 s201 s202 s203 s204 s205 s206 s207 s208 s209 s210 s211 s212 s213 s214 s215 s216 s217 s218 s219 s220 s221 s222 s223 s224 s225 s226 s227 s228 s229 s230 s231 s232 s233 s234 s235 s236 s237 s238 s239 s240 s241 s242 s243 s244 s245 s246 s247 s248 s249 s250 s251 s252 s253 s254 s255 s256 s257 s258 s259 s260 s261 s262 s263 s264 s265 s266 s267 s268 s269 s270 s271 s272 s273 s274 s275 s276 s277 s278 s279 s280 s281 s282 s283 s284 s285 s286 s287 s288 s289 s290 s291 s292 s293 s294 : Value} :
    (Code.snd2 (Code.snd2 (Code.snd2 (Code.snd2 (Code.snd2 (Try.f12.body.getD .skip)))))).wp Try.prog (bodyPost Try.prog Try.f12 fun e w' => e = .returned (.bool true) ∧ Below w.heap.size w w') { tmps := #[s0, .pointer (some ⟨w.heap.size, 0, none⟩), s2, .pointer (some ⟨bx, 0, none⟩), .pointer (some ⟨by_, 0, none⟩), .func (.func 42) #[] #[], s6, s7, s8, s9, s10, s11, s12, s13, s14, s15, s16, s17, s18, s19, s20, s21, s22, s23, s24, s25, s26, s27, s28, s29, s30, s31, s32, s33, s34, s35, s36, s37, s38, s39, s40, s41, s42, s43, s44, s45, s46, s47, s48, s49, s50, s51, s52, s53, s54, s55, s56, s57, s58, s59, s60, s61, s62, s63, s64, s65, s66, s67, s68, s69, s70, s71, s72, s73, s74, s75, s76, s77, s78, s79, s80, s81, s82, s83, s84, s85, s86, s87, s88, s89, s90, s91, s92, s93, s94, s95, s96, s97, s98, s99, s100, s101, s102, s103, s104, s105, s106, s107, s108, s109, s110, s111, s112, s113, s114, s115, s116, s117, s118, s119, s120, s121, s122, s123, s124, s125, s126, s127, s128, s129, s130, s131, s132, s133, s134, s135, s136, s137, s138, s139, s140, s141, s142, s143, s144, s145, s146, s147, s148, s149, s150, s151, s152, s153, s154, s155, s156, s157, s158, s159, s160, s161, s162, s163, s164, s165, s166, s167, s168, s169, s170, s171, s172, s173, s174, s175, s176, s177, s178, s179, s180, s181, s182, s183, s184, s185, s186, s187, s188, s189, s190, s191, s192, s193, s194, s195, s196, s197, s198, s199, s200, s201, s202, s203, s204, s205, s206, s207, s208, s209, s210, s211, s212, s213, s214, s215, s216, s217, s218, s219, s220, s221, s222, s223, s224, s225, s226, s227, s228, s229, s230, s231, s232, s233, s234, s235, s236, s237, s238, s239, s240, s241, s242, s243, s244, s245, s246, s247, s248, s249, s250, s251, s252, s253, s254, s255, s256, s257, s258, s259, s260, s261, s262, s263, s264, s265, s266, s267, s268, s269, s270, s271, s272, s273, s274, s275, s276, s277, s278, s279, s280, s281, s282, s283, s284, s285, s286, s287, s288, s289, s290, s291, s292, s293, s294], defers := [] } wb := by
  conv => arg 2; whnf
  have H10L := Lib.hid t10.1
  have H10R := Lib.hid t10.2
  have HOL := Lib.hid oL
  have HOR := Lib.hid oR
  have HOK := Lib.hid hok
  have HB := Lib.hid hB
  have HBX := Lib.hid hX
  have HBY := Lib.hid hY
  have HG := Lib.hid hG
  have HML := Lib.hid hML
  have HMR := Lib.hid hMR
  have HLN := Lib.hid hln
  have HF := Lib.hid hf
  have HFX := Lib.hid hfx
  have HCR := Lib.hid hcr
  have HCX := Lib.hid hcx
  have HCY := Lib.hid hcy
  have HHR := Lib.hid hhr
  have HHX := Lib.hid hhx
  have HKR := Lib.hid hkr
  have HKX := Lib.hid hkx
  have HMLb := Lib.hid (hML.grow hG)
  have HMRb := Lib.hid (hMR.grow hG)
  clear hok hB hX hY hG hML hMR hf hfx hcr hcx hcy hhr hhx hkr hkx t10 oL oR
  unfold Rr.cs at HB
  go_upto_region 6 with fail
  rename_i KK hKK
  have HKK := Lib.hid hKK
  clear hKK
  refine region2 9 ?_ ?_ ?_
  · kernel_rfl
  · kernel_rfl
  simp only [List.take_succ_cons, List.take_zero, List.drop_succ_cons, List.drop_zero]
  apply chain_eq (D := [(5, none)]) rfl (by kernel_rfl)
  · intro ρ W ⟨p1, p2, p3⟩ hG hF K hK; (try simp [FactsD] at hF); have ⟨hc, hf, hz⟩ := bcell (Gr.tr (Gr.drew _) hG); go_simp; exact hK _ (gives_val)
  apply chain_eq (D := [(1, none)]) rfl (by kernel_rfl)
  · intro ρ W ⟨p1, p2, p3⟩ hG hF K hK; (try simp [FactsD] at hF); have ⟨hc, hf, hz⟩ := bcell (Gr.tr (Gr.drew _) hG); have HBW := HB.out.grow (Gr.tr (Gr.drew _) hG); have z0 := HBW.cell (i := 0) rfl; have z1 := HBW.cell (i := 1) rfl; have zl := HBW.lt; go_simp; exact hK _ (gives_val)
  apply chain_eq (D := [(69, some 0)]) rfl (by kernel_rfl)
  · intro ρ W ⟨p1, p2, p3⟩ hG hF K hK; (try simp [FactsD] at hF); have ⟨hc, hf, hz⟩ := bcell (Gr.tr (Gr.drew _) hG); have HBW := HB.out.grow (Gr.tr (Gr.drew _) hG); have z0 := HBW.cell (i := 0) rfl; have z1 := HBW.cell (i := 1) rfl; have zl := HBW.lt; go_simp; exact hK _ (gives_val)
  refine chain_any (V := (fun v W' => Mv r.L v W')) (D := [(68, some 2), (70, some 0)]) rfl (by kernel_rfl) (fun v W W' h hg => h.grow hg) ?_ ?_
  · intro ρ W ⟨p1, p2, p3⟩ hG hF K hK; (try simp [FactsD] at hF); have ⟨hc, hf, hz⟩ := bcell (Gr.tr (Gr.drew _) hG); go_simp; exact hK _ (gives_rel (mir42 r.L r.lp r.lc _ (HMLb.out.grow (Gr.tr (Gr.drew _) hG)) H10L.out HOL.out))
  apply chain_eq (D := [(5, none)]) rfl (by kernel_rfl)
  · intro ρ W ⟨p1, p2, p3⟩ hG hF K hK; (try simp [FactsD] at hF); have ⟨hc, hf, hz⟩ := bcell (Gr.tr (Gr.drew _) hG); go_simp; exact hK _ (gives_val)
  apply chain_eq (D := [(1, none)]) rfl (by kernel_rfl)
  · intro ρ W ⟨p1, p2, p3⟩ hG hF K hK; (try simp [FactsD] at hF); have ⟨hc, hf, hz⟩ := bcell (Gr.tr (Gr.drew _) hG); have HBW := HB.out.grow (Gr.tr (Gr.drew _) hG); have z0 := HBW.cell (i := 0) rfl; have z1 := HBW.cell (i := 1) rfl; have zl := HBW.lt; go_simp; exact hK _ (gives_val)
  apply chain_eq (D := [(73, some 0)]) rfl (by kernel_rfl)
  · intro ρ W ⟨p1, p2, p3⟩ hG hF K hK; (try simp [FactsD] at hF); have ⟨hc, hf, hz⟩ := bcell (Gr.tr (Gr.drew _) hG); have HBW := HB.out.grow (Gr.tr (Gr.drew _) hG); have z0 := HBW.cell (i := 0) rfl; have z1 := HBW.cell (i := 1) rfl; have zl := HBW.lt; go_simp; exact hK _ (gives_val)
  refine chain_any (V := (fun v W' => Mv r.R v W')) (D := [(72, some 2), (74, some 0)]) rfl (by kernel_rfl) (fun v W W' h hg => h.grow hg) ?_ ?_
  · intro ρ W ⟨p1, p2, p3⟩ hG hF K hK; (try simp [FactsD] at hF); have ⟨hc, hf, hz⟩ := bcell (Gr.tr (Gr.drew _) hG); go_simp; exact hK _ (gives_rel (mir42 r.R r.rp r.rc _ (HMRb.out.grow (Gr.tr (Gr.drew _) hG)) H10R.out HOR.out))
  apply chain_eq (D := [(4, none)]) rfl (by kernel_rfl)
  · intro ρ W ⟨p1, p2, p3⟩ hG hF K hK; (try simp [FactsD] at hF); have ⟨hc, hf, hz⟩ := bcell (Gr.tr (Gr.drew _) hG); go_simp; exact hK _ (gives_val)
  refine chain_done ?_
  intro vs W hG hV
  obtain ⟨e8, e7, -, -, -, e3, -⟩ := hV
  simp only [Nat.reduceSub] at e3
  simp only [Nat.reduceSub] at e7
  simp only [Nat.reduceSub] at e8
  simp only [lay, Act.put, List.getElem?_toArray, List.getElem?_cons_succ, List.getElem?_cons_zero, Option.bind_some, List.setIfInBounds_toArray, List.set_cons_succ, List.set_cons_zero]
  generalize vs 0 = v0
  generalize vs 1 = v1
  generalize vs 2 = v2
  generalize vs 3 = v3 at *
  generalize vs 4 = v4
  generalize vs 5 = v5
  generalize vs 6 = v6
  generalize vs 7 = v7 at *
  generalize vs 8 = v8 at *
  subst e8
  obtain ⟨hc, hf, hz⟩ := bcell hG
  have HGW := Lib.hid (show Gr wb W from hG)
  obtain ⟨q, c, rfl, hq⟩ := e3
  obtain ⟨q2, c2, rfl, hq2⟩ := e7
  have HQ := Lib.hid hq
  have HQ2 := Lib.hid hq2
  have HB2 := Lib.hid (HB.out.grow HGW.out)
  have HX2 := Lib.hid (HBX.out.grow HGW.out)
  have HY2 := Lib.hid (HBY.out.grow HGW.out)
  have y0 := HY2.out.cell (i := 0) rfl
  have y1 := HY2.out.cell (i := 1) rfl
  have yf0 := HY2.out.free 0
  have yf1 := HY2.out.free 1
  have yl := HY2.out.lt
  clear hq hq2 hc hf hz hG
  go_wp2_with fail
  have HG2 := Lib.hid (show Gr w ((W.setCell ⟨by_, 0, none⟩ (.slice q r.L.length c)).setCell ⟨by_, 1, none⟩ (.slice q2 r.R.length c2)) from Below.setCell (Below.setCell (HG.out.tr HGW.out) (show w.heap.size ≤ by_ by omega) _) (show w.heap.size ≤ by_ by omega) _)
  have HO := Lib.hid (((Ot.same by_ W).set 0 (.slice q r.L.length c)).set 1 (.slice q2 r.R.length c2))
  have HYY := Lib.hid ((HY2.out.put 0 (.slice q r.L.length c)).put 1 (.slice q2 r.R.length c2))
  have HBB := Lib.hid (HB2.out.ot (by omega) HO.out)
  have HXX := Lib.hid (HX2.out.ot (by omega) HO.out)
  exact HKK.out _ _ (lturn_copies_zero r (r.mirror q c q2 c2) l lx nf n ha hb bx by_ w _ HOK.out HBB.out HXX.out (by
    show Box _ by_ [.slice q (mirL r.L).length c, .slice q2 (mirL r.R).length c2, _, _, _] 26
    rw [mirL_len, mirL_len]
    exact HYY.out) HG2.out HML.out HMR.out (mks_ap HQ.out HY2.out HO.out) (mks_ap HQ2.out HY2.out HO.out) HLN.out HF.out HFX.out HCR.out HCX.out (HCY.out q c q2 c2) HHR.out HHX.out HKR.out HKX.out)
set_option maxRecDepth 100000 in
set_option maxHeartbeats 8000000 in
theorem lturn_mirs_yes (r : Rr) (l lx : List (Nat × Nat)) (nf n ha hb bx by_ : Nat) (w wb : World) (hok : r.ok = true) (hB : Box wb w.heap.size r.cs 26) (hX : Box wb bx r.swap.cs 26) (hY : Box wb by_ [.slice none 0 0, .slice none 0 0, .int .i64 (-r.t), .int .i64 (-r.s), .int .i64 r.h] 26) (n1 : w.heap.size < bx) (n2 : bx < by_) (hG : Gr w wb) (hML : MksAt r.L r.lp w) (hMR : MksAt r.R r.rp w) (hln : l.length ≤ 1000) (hf : r.fewest = (l, nf, 0)) (hfx : r.swap.fewest = (lx, nf, 0)) (hcr : r.counted = (n, 0)) (hcx : r.swap.counted = (n, 0)) (hcy : ∀ q c q2 c2, (r.mirror q c q2 c2).counted = (n, 0)) (hhr : r.hides = (ha, hb, 0)) (hhx : r.swap.hides = (hb, ha, 0)) (hkr : r.can = ((List.range (r.L.length)).map (fun j => (r.lkd.ptn j : Int)), 0)) (hkx : r.swap.can = ((List.range (r.R.length)).map (fun j => (r.swap.lkd.ptn j : Int)), 0)) (t10 : r.L.length ≤ 10 ∧ r.R.length ≤ 10) (oL : ∀ m ∈ r.L, m.ok = true) (oR : ∀ m ∈ r.R, m.ok = true) {s0 s2 s6 s7 s8 s9 s10 s11 s12 s13 s14 s15 s16 s17 s18 s19 s20 s21 s22 s23 s24 s25 s26 s27 s28 s29 s30 s31 s32 s33 s34 s35 s36 s37 s38 s39 s40 s41 s42 s43 s44 s45 s46 s47 s48 s49 s50 s51 s52 s53 s54 s55 s56 s57 s58 s59 s60 s61 s62 s63 s64 s65 s66 s67 s68 s69 s70 s71 s72 s73 s74 s75 s76 s77 s78 s79 s80 s81 s82 s83 s84 s85 s86 s87 s88 s89 s90 s91 s92 s93 s94 s95 s96 s97 s98 s99 s100 s101 s102 s103 s104 s105 s106 s107 s108 s109 s110 s111 s112 s113 s114 s115 s116 s117 s118 s119 s120 s121 s122 s123 s124 s125 s126 s127 s128 s129 s130 s131 s132 s133 s134 s135 s136 s137 s138 s139 s140 s141 s142 s143 s144 s145 s146 s147 s148 s149 s150 s151 s152 s153 s154 s155 s156 s157 s158 s159 s160 s161 s162 s163 s164 s165 s166 s167 s168 s169 s170 s171 s172 s173 s174 s175 s176 s177 s178 s179 s180 s181 s182 s183 s184 s185 s186 s187 s188 s189 s190 s191 s192 s193 s194 s195 s196 s197 s198 s199 s200 s201 s202 s203 s204 s205 s206 s207 s208 s209 s210 s211 s212 s213 s214 s215 s216 s217 s218 s219 s220 s221 s222 s223 s224 s225 s226 s227 s228 s229 s230 s231 s232 s233 s234 s235 s236 s237 s238 s239 s240 s241 s242 s243 s244 s245 s246 s247 s248 s249 s250 s251 s252 s253 s254 s255 s256 s257 s258 s259 s260 s261 s262 s263 s264 s265 s266 s267 s268 s269 s270 s271 s272 s273 s274 s275 s276 s277 s278 s279 s280 s281 s282 s283 s284 s285 s286 s287 s288 s289 s290 s291 s292 s293 s294 : Value} :
    (Code.snd2 (Code.snd2 (Code.snd2 (Code.snd2 (Code.snd2 (Try.f12.body.getD .skip)))))).wp Try.prog (bodyPost Try.prog Try.f12 fun e w' => e = .returned (.bool true) ∧ Below w.heap.size w w') { tmps := #[s0, .pointer (some ⟨w.heap.size, 0, none⟩), s2, .pointer (some ⟨bx, 0, none⟩), .pointer (some ⟨by_, 0, none⟩), .func (.func 42) #[] #[], s6, s7, s8, s9, s10, s11, s12, s13, s14, s15, s16, s17, s18, s19, s20, s21, s22, s23, s24, s25, s26, s27, s28, s29, s30, s31, s32, s33, s34, s35, s36, s37, s38, s39, s40, s41, s42, s43, s44, s45, s46, s47, s48, s49, s50, s51, s52, s53, s54, s55, s56, s57, s58, s59, s60, s61, s62, s63, s64, s65, s66, s67, s68, s69, s70, s71, s72, s73, s74, s75, s76, s77, s78, s79, s80, s81, s82, s83, s84, s85, s86, s87, s88, s89, s90, s91, s92, s93, s94, s95, s96, s97, s98, s99, s100, s101, s102, s103, s104, s105, s106, s107, s108, s109, s110, s111, s112, s113, s114, s115, s116, s117, s118, s119, s120, s121, s122, s123, s124, s125, s126, s127, s128, s129, s130, s131, s132, s133, s134, s135, s136, s137, s138, s139, s140, s141, s142, s143, s144, s145, s146, s147, s148, s149, s150, s151, s152, s153, s154, s155, s156, s157, s158, s159, s160, s161, s162, s163, s164, s165, s166, s167, s168, s169, s170, s171, s172, s173, s174, s175, s176, s177, s178, s179, s180, s181, s182, s183, s184, s185, s186, s187, s188, s189, s190, s191, s192, s193, s194, s195, s196, s197, s198, s199, s200, s201, s202, s203, s204, s205, s206, s207, s208, s209, s210, s211, s212, s213, s214, s215, s216, s217, s218, s219, s220, s221, s222, s223, s224, s225, s226, s227, s228, s229, s230, s231, s232, s233, s234, s235, s236, s237, s238, s239, s240, s241, s242, s243, s244, s245, s246, s247, s248, s249, s250, s251, s252, s253, s254, s255, s256, s257, s258, s259, s260, s261, s262, s263, s264, s265, s266, s267, s268, s269, s270, s271, s272, s273, s274, s275, s276, s277, s278, s279, s280, s281, s282, s283, s284, s285, s286, s287, s288, s289, s290, s291, s292, s293, s294], defers := [] } wb := by
  conv => arg 2; whnf
  have H10L := Lib.hid t10.1
  have H10R := Lib.hid t10.2
  have HOL := Lib.hid oL
  have HOR := Lib.hid oR
  have HOK := Lib.hid hok
  have HB := Lib.hid hB
  have HBX := Lib.hid hX
  have HBY := Lib.hid hY
  have HG := Lib.hid hG
  have HML := Lib.hid hML
  have HMR := Lib.hid hMR
  have HLN := Lib.hid hln
  have HF := Lib.hid hf
  have HFX := Lib.hid hfx
  have HCR := Lib.hid hcr
  have HCX := Lib.hid hcx
  have HCY := Lib.hid hcy
  have HHR := Lib.hid hhr
  have HHX := Lib.hid hhx
  have HKR := Lib.hid hkr
  have HKX := Lib.hid hkx
  have HMLb := Lib.hid (hML.grow hG)
  have HMRb := Lib.hid (hMR.grow hG)
  clear hok hB hX hY hG hML hMR hf hfx hcr hcx hcy hhr hhx hkr hkx t10 oL oR
  unfold Rr.cs at HB
  go_upto_region 6 with fail
  rename_i KK hKK
  have HKK := Lib.hid hKK
  clear hKK
  refine region2 9 ?_ ?_ ?_
  · kernel_rfl
  · kernel_rfl
  simp only [List.take_succ_cons, List.take_zero, List.drop_succ_cons, List.drop_zero]
  apply chain_eq (D := [(5, none)]) rfl (by kernel_rfl)
  · intro ρ W ⟨p1, p2, p3⟩ hG hF K hK; (try simp [FactsD] at hF); have ⟨hc, hf, hz⟩ := bcell (Gr.tr (Gr.drew _) hG); go_simp; exact hK _ (gives_val)
  apply chain_eq (D := [(1, none)]) rfl (by kernel_rfl)
  · intro ρ W ⟨p1, p2, p3⟩ hG hF K hK; (try simp [FactsD] at hF); have ⟨hc, hf, hz⟩ := bcell (Gr.tr (Gr.drew _) hG); have HBW := HB.out.grow (Gr.tr (Gr.drew _) hG); have z0 := HBW.cell (i := 0) rfl; have z1 := HBW.cell (i := 1) rfl; have zl := HBW.lt; go_simp; exact hK _ (gives_val)
  apply chain_eq (D := [(69, some 0)]) rfl (by kernel_rfl)
  · intro ρ W ⟨p1, p2, p3⟩ hG hF K hK; (try simp [FactsD] at hF); have ⟨hc, hf, hz⟩ := bcell (Gr.tr (Gr.drew _) hG); have HBW := HB.out.grow (Gr.tr (Gr.drew _) hG); have z0 := HBW.cell (i := 0) rfl; have z1 := HBW.cell (i := 1) rfl; have zl := HBW.lt; go_simp; exact hK _ (gives_val)
  refine chain_any (V := (fun v W' => Mv r.L v W')) (D := [(68, some 2), (70, some 0)]) rfl (by kernel_rfl) (fun v W W' h hg => h.grow hg) ?_ ?_
  · intro ρ W ⟨p1, p2, p3⟩ hG hF K hK; (try simp [FactsD] at hF); have ⟨hc, hf, hz⟩ := bcell (Gr.tr (Gr.drew _) hG); go_simp; exact hK _ (gives_rel (mir42 r.L r.lp r.lc _ (HMLb.out.grow (Gr.tr (Gr.drew _) hG)) H10L.out HOL.out))
  apply chain_eq (D := [(5, none)]) rfl (by kernel_rfl)
  · intro ρ W ⟨p1, p2, p3⟩ hG hF K hK; (try simp [FactsD] at hF); have ⟨hc, hf, hz⟩ := bcell (Gr.tr (Gr.drew _) hG); go_simp; exact hK _ (gives_val)
  apply chain_eq (D := [(1, none)]) rfl (by kernel_rfl)
  · intro ρ W ⟨p1, p2, p3⟩ hG hF K hK; (try simp [FactsD] at hF); have ⟨hc, hf, hz⟩ := bcell (Gr.tr (Gr.drew _) hG); have HBW := HB.out.grow (Gr.tr (Gr.drew _) hG); have z0 := HBW.cell (i := 0) rfl; have z1 := HBW.cell (i := 1) rfl; have zl := HBW.lt; go_simp; exact hK _ (gives_val)
  apply chain_eq (D := [(73, some 0)]) rfl (by kernel_rfl)
  · intro ρ W ⟨p1, p2, p3⟩ hG hF K hK; (try simp [FactsD] at hF); have ⟨hc, hf, hz⟩ := bcell (Gr.tr (Gr.drew _) hG); have HBW := HB.out.grow (Gr.tr (Gr.drew _) hG); have z0 := HBW.cell (i := 0) rfl; have z1 := HBW.cell (i := 1) rfl; have zl := HBW.lt; go_simp; exact hK _ (gives_val)
  refine chain_any (V := (fun v W' => Mv r.R v W')) (D := [(72, some 2), (74, some 0)]) rfl (by kernel_rfl) (fun v W W' h hg => h.grow hg) ?_ ?_
  · intro ρ W ⟨p1, p2, p3⟩ hG hF K hK; (try simp [FactsD] at hF); have ⟨hc, hf, hz⟩ := bcell (Gr.tr (Gr.drew _) hG); go_simp; exact hK _ (gives_rel (mir42 r.R r.rp r.rc _ (HMRb.out.grow (Gr.tr (Gr.drew _) hG)) H10R.out HOR.out))
  apply chain_eq (D := [(4, none)]) rfl (by kernel_rfl)
  · intro ρ W ⟨p1, p2, p3⟩ hG hF K hK; (try simp [FactsD] at hF); have ⟨hc, hf, hz⟩ := bcell (Gr.tr (Gr.drew _) hG); go_simp; exact hK _ (gives_val)
  refine chain_done ?_
  intro vs W hG hV
  obtain ⟨e8, e7, -, -, -, e3, -⟩ := hV
  simp only [Nat.reduceSub] at e3
  simp only [Nat.reduceSub] at e7
  simp only [Nat.reduceSub] at e8
  simp only [lay, Act.put, List.getElem?_toArray, List.getElem?_cons_succ, List.getElem?_cons_zero, Option.bind_some, List.setIfInBounds_toArray, List.set_cons_succ, List.set_cons_zero]
  generalize vs 0 = v0
  generalize vs 1 = v1
  generalize vs 2 = v2
  generalize vs 3 = v3 at *
  generalize vs 4 = v4
  generalize vs 5 = v5
  generalize vs 6 = v6
  generalize vs 7 = v7 at *
  generalize vs 8 = v8 at *
  subst e8
  obtain ⟨hc, hf, hz⟩ := bcell hG
  have HGW := Lib.hid (show Gr wb W from hG)
  obtain ⟨q, c, rfl, hq⟩ := e3
  obtain ⟨q2, c2, rfl, hq2⟩ := e7
  have HQ := Lib.hid hq
  have HQ2 := Lib.hid hq2
  have HB2 := Lib.hid (HB.out.grow HGW.out)
  have HX2 := Lib.hid (HBX.out.grow HGW.out)
  have HY2 := Lib.hid (HBY.out.grow HGW.out)
  have y0 := HY2.out.cell (i := 0) rfl
  have y1 := HY2.out.cell (i := 1) rfl
  have yf0 := HY2.out.free 0
  have yf1 := HY2.out.free 1
  have yl := HY2.out.lt
  clear hq hq2 hc hf hz hG
  go_wp2_with fail
  have HG2 := Lib.hid (show Gr w ((W.setCell ⟨by_, 0, none⟩ (.slice q r.L.length c)).setCell ⟨by_, 1, none⟩ (.slice q2 r.R.length c2)) from Below.setCell (Below.setCell (HG.out.tr HGW.out) (show w.heap.size ≤ by_ by omega) _) (show w.heap.size ≤ by_ by omega) _)
  have HO := Lib.hid (((Ot.same by_ W).set 0 (.slice q r.L.length c)).set 1 (.slice q2 r.R.length c2))
  have HYY := Lib.hid ((HY2.out.put 0 (.slice q r.L.length c)).put 1 (.slice q2 r.R.length c2))
  have HBB := Lib.hid (HB2.out.ot (by omega) HO.out)
  have HXX := Lib.hid (HX2.out.ot (by omega) HO.out)
  exact HKK.out _ _ (lturn_copies_yes r (r.mirror q c q2 c2) l lx nf n ha hb bx by_ w _ HOK.out HBB.out HXX.out (by
    show Box _ by_ [.slice q (mirL r.L).length c, .slice q2 (mirL r.R).length c2, _, _, _] 26
    rw [mirL_len, mirL_len]
    exact HYY.out) HG2.out HML.out HMR.out (mks_ap HQ.out HY2.out HO.out) (mks_ap HQ2.out HY2.out HO.out) HLN.out HF.out HFX.out HCR.out HCX.out (HCY.out q c q2 c2) HHR.out HHX.out HKR.out HKX.out)

end Go.Proofs.Ytjlaoiimbhlafaa
